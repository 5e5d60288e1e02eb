import Derived.Test.YtcnhfffgbamonabGreatZ27
set_option maxRecDepth 100000
set_option maxHeartbeats 6400000
namespace Go.Proofs.YtcnhfffgbamonabGreat
open Go.Proofs.Tryz
namespace R
def pK(g:bX)(n:Int):M.Tn:=g.ts.getD n.toNat M.uY
def iR(t:M.Tn)(h w c:Int):Bool:=t.h==h&&t.w==w&&t.c==c
def ik(o:Op)(k:Nat):Int:=o.ins.getD k 0
def fq(o:Op)(k:Nat):Int:=o.cO.getD k 0
def gE(g:bX)(o:Op):Bool:=
 let a:=pK g (ik o 0)
 let z:=pK g o.out
 let b:=if 1<o.ins.length then pK g (ik o 1) else a
 if o.af=1\/o.af=2 then
  let v:=pK g (ik o 2)
  if fq o 0=0\/v.h≠1\/v.w≠1 then false else
   iR z (gC a.h b.h (fq o 0) (fq o 1==1)) (gC a.w b.w (fq o 0) (fq o 1==1)) v.c &&
    (b.c==(if o.af=1 then a.c*v.c else a.c))&&(o.af==1||v.c==a.c)
 else if o.af=3 then iR b b.h 1 (M.cellsOf a)&&iR (pK g (ik o 2)) 1 1 b.h&&iR z 1 1 b.h
 else if o.af=4 then iR b a.h a.w a.c&&iR z a.h a.w a.c
 else if o.af=5\/o.af=6 then
  if fq o 0=0\/fq o 1=0 then false else iR z (gC a.h (fq o 0) (fq o 1) false) (gC a.w (fq o 0) (fq o 1) false) a.c
 else if o.af=8 then iR z (a.h+fq o 0+fq o 1) (a.w+fq o 2+fq o 3) a.c
 else if o.af=9 then M.cellsOf a==M.cellsOf z
 else if o.af=10 then a.h==b.h&&a.w==b.w&&iR z a.h a.w (a.c+b.c)
 else iR z a.h a.w a.c
theorem mr(m:M.Md){n:Int}(h0:0<=n):pK (dp m) n=M.aq m n:=by
 unfold pK M.aq;show m.au.getD n.toNat M.uY=_;by_cases h:n<0\/(m.au.length:Int)<=n
 ·rw[ay h,List.getD,cX (by omega)];rfl
 ·rw[ak h]
structure ap7(t:M.Tn):Prop where
 h:1<=t.h
 w:1<=t.w
 c:1<=t.c
theorem Kg{m:M.Md}(hF:p8 m)(hl:M.m6 m=true){n:Int}(h0:0<=n)(h1:n<m.au.length):ap7 (M.aq m n):=by
 have hm:M.aq m n∈m.au:=by
  unfold M.aq;rw[ak (by omega),List.getD,aT (by omega)];exact List.getElem_mem _
 have ft:=hF.ts _ hm;unfold M.m6 at hl;simp only[fh,jg] at hl;have hc:=hl.1.2 _ hm;unfold M.uX at hc;simp only[Bool.not_eq_true',Bool.or_eq_false_iff,decide_eq_false_iff_not] at hc;have yt:=hc.1;unfold M.cellsOf at yt;generalize M.aq m n=t at *;have a0:=ft.h0;have b0:=ft.w0;have c0:=ft.c0;refine⟨?_,?_,?_⟩
 ·apply Classical.byContradiction
  intro hn;have:t.h=0:=by omega
  rw[this,Int.zero_mul,Int.zero_mul] at yt;omega
 ·apply Classical.byContradiction
  intro hn;have:t.w=0:=by omega
  rw[this,Int.mul_zero,Int.zero_mul] at yt;omega
 ·apply Classical.byContradiction
  intro hn;have:t.c=0:=by omega
  rw[this,Int.mul_zero] at yt;omega
structure ap8(m:M.Md)(o:M.Op):Prop where
 a:o.a<m.au.length
 to:o.to<m.au.length
 b:M.dr o.af=true->o.b<m.au.length
 ws:M.cm o.af=true->o.aP<m.au.length/\o.bA<m.au.length
theorem Tq{m:M.Md}(hg:M.lF m=true){o:M.Op}(ho:o∈m.ag):ap8 m o:=by
 obtain⟨by_,hm,hr,-⟩:=D.Ql hg;obtain⟨i,hi⟩:=mM ho;have h:=hr i o hi;obtain⟨hO,-,-⟩:=(M.Qo m).1 by_ hm;have uo:=M.yw (hO.BN i o (M.bP hi) hi);unfold M.m8 at h;rw[fh] at h;have hc:∀{t:Int},M.nR m by_ i t=true->t<m.au.length:=by
  intro t ht;unfold M.nR M.m7 at ht;simp only[fh,decide_eq_true_eq] at ht;exact ht.1.1.1.2
 refine⟨hc h.1,uo.2.1,fun h2=>?_,fun hW=>?_⟩
 ·have:=h.2;rw[ay h2] at this;exact hc this
 ·have h2:¬M.dr o.af=true:=by rw[od];rw[kh] at hW;omega
  have:=h.2;rw[ak h2,ak (by rw[hW];decide),fh] at this;exact⟨(M.yw this.1).2.1,(M.yw this.2).2.1⟩
theorem zj{o:M.Op}(h:M.cm o.af=true):(bJ o).ins=[o.a,o.aP,o.bA]:=by
 have h2:¬M.dr o.af=true:=by rw[od];rw[kh] at h;omega
 show po o=_;unfold po;rw[h,ak h2];rfl
theorem CV{o:M.Op}(h:M.dr o.af=true):(bJ o).ins=[o.a,o.b]:=by
 have h2:¬M.cm o.af=true:=by rw[kh];rw[od] at h;omega
 show po o=_;unfold po;rw[h,ak h2];rfl
theorem CW{o:M.Op}(h:¬M.dr o.af=true)(h2:¬M.cm o.af=true):(bJ o).ins=[o.a]:=by
 show po o=_;unfold po;rw[ak h,ak h2];rfl
theorem FX(t:M.Tn)(h w c:Int):iR t h w c=true↔t.h=h/\t.w=w/\t.c=c:=by unfold iR;simp[and_assoc]
theorem DF(t:M.Tn)(n:Int):M.isRow t n=true↔t.h=1/\t.w=1/\t.c=n:=by unfold M.isRow;simp[and_assoc]
theorem z9(a z:M.Tn):M.kV a z=true↔a.h=z.h/\a.w=z.w/\a.c=z.c:=by unfold M.kV;simp[and_assoc]
theorem ap9(n length s:Int)(same:Bool)(h:s<1):M.dP n length s same=0:=by unfold M.dP;rw[ay (.inl h)]
theorem Tr{m:M.Md}(hF:p8 m)(hl:M.m6 m=true)(hg:M.lF m=true){o:M.Op}(ho:o∈m.ag)(k:o.af=1\/o.af=2):gE (dp m) (bJ o)=M.bT m o:=by
 have fo:=hF.os o ho;have nr:=Tq hg ho;have hW:M.cm o.af=true:=by rw[kh];omega
 have fa:=Kg hF hl fo.a.1 nr.a;have fz:=Kg hF hl fo.to.1 nr.to;have fw:=Kg hF hl fo.ws.1 (nr.ws hW).1;have ea:=mr m fo.a.1;have ez:=mr m fo.to.1;have ew:=mr m fo.ws.1;have eb:=mr m fo.bs.1;have s0:=fo.aE.1;unfold gE M.bT;have ek:(bJ o).af=o.af:=rfl;have eo:(bJ o).out=o.to:=rfl;have en:(bJ o).cO=[o.aE,if o.same=true then 1 else 0]++FQ o.bM++[o.lo,o.hi]:=by
  show iF o=_;unfold iF;rw[ay k,ay (show 1<=o.af/\o.af<=7 by omega)]
 have e1:fq (bJ o) 0=o.aE:=by unfold fq;rw[en];rfl
 have e2:(fq (bJ o) 1==1)=o.same:=by unfold fq;rw[en];cases o.same<;>rfl
 have i0:ik (bJ o) 0=o.a:=by unfold ik;rw[zj hW];rfl
 have i1:ik (bJ o) 1=o.aP:=by unfold ik;rw[zj hW];rfl
 have i2:ik (bJ o) 2=o.bA:=by unfold ik;rw[zj hW];rfl
 have il:1<(bJ o).ins.length:=by rw[zj hW];exact Nat.lt_of_sub_eq_succ rfl
 rw[ek,eo,e1,e2,i0,i1,i2,ea,ez,ew,eb];simp only[ay k,ay il];generalize M.aq m o.a=a at *;generalize M.aq m o.to=z at *;generalize M.aq m o.aP=w at *;generalize M.aq m o.bA=v at *;unfold M.pS;by_cases hs:o.aE=0
 ·rw[ay (.inl hs),ay (.inl (by rw[ap9 _ _ _ _ (by omega)];have:=fz.h;omega))]
 ·rw[D.Ij o.same (by have:=fa.h;omega) (by omega) fw.h,D.Ij o.same (by have:=fa.w;omega) (by omega) fw.w]
  generalize M.dP w.h a.h o.aE o.same=p;generalize M.dP w.w a.w o.aE o.same=q;have FY:M.isRow v z.c=false↔¬(v.h=1/\v.w=1/\v.c=z.c):=by rw[<-DF];simp
  rw[nK];by_cases c1:o.aE=0\/v.h≠1\/v.w≠1
  ·rw[ay c1,ay (.inr (.inr (FY.mpr (by omega))))]
  ·rw[ak c1]
   by_cases c2:z.h≠p\/z.w≠q\/M.isRow v z.c=false
   ·rw[ay c2]
    rw[FY] at c2;simp only[fh,FX]
    constructor
    ·rintro ⟨⟨h1,-⟩,-⟩;omega
    ·intro h;exact aN h (by decide)
   ·rw[ak c2]
    rw[FY] at c2;have hvc:v.c=z.c:=by omega
    have ht:iR z p q v.c=true:=by rw[FX];omega
    rw[ht,hvc];rcases k with k|k
    ·rw[k];simp
    ·rw[k];simp
theorem aqb{m:M.Md}(hF:p8 m)(hl:M.m6 m=true)(hg:M.lF m=true){o:M.Op}(ho:o∈m.ag):gE (dp m) (bJ o)=M.bT m o:=by
 by_cases kc:o.af=1\/o.af=2
 ·exact Tr hF hl hg ho kc
 have fo:=hF.os o ho;have nr:=Tq hg ho;have fa:=Kg hF hl fo.a.1 nr.a;have fz:=Kg hF hl fo.to.1 nr.to;have ea:=mr m fo.a.1;have ez:=mr m fo.to.1;have k0:=fo.k0;have k1:=fo.k1;have s0:=fo.aE.1;have n0:=fo.size.1;unfold gE M.bT;have ek:(bJ o).af=o.af:=rfl;have eo:(bJ o).out=o.to:=rfl;have i0:ik (bJ o) 0=o.a:=rfl;rw[ek,eo,i0,ea,ez];simp only[ak kc];rcases(show o.af=3\/o.af=4\/(o.af=5\/o.af=6)\/o.af=7\/o.af=8\/o.af=9\/o.af=10 by omega) with k|k|k|k|k|k|k
 ·have hW:M.cm o.af=true:=by rw[kh];omega
  have i1:ik (bJ o) 1=o.aP:=by unfold ik;rw[zj hW];rfl
  have i2:ik (bJ o) 2=o.bA:=by unfold ik;rw[zj hW];rfl
  have il:1<(bJ o).ins.length:=by rw[zj hW];exact Nat.lt_of_sub_eq_succ rfl
  simp only[ay k,ay il,i1,i2,mr m fo.ws.1,mr m fo.bs.1];unfold M.qz;rw[nK];simp only[fh,FX,DF,beq_iff_eq]
  constructor
  ·rintro ⟨⟨h1,h2⟩,h3⟩;exact⟨⟨⟨h3,h2⟩,h1.2.1⟩,h1.2.2⟩
  ·rintro ⟨⟨⟨h3,h2⟩,h1⟩,h4⟩;exact⟨⟨⟨trivial,h1,h4⟩,h2⟩,h3⟩
 ·have h2:M.dr o.af=true:=by rw[od];omega
  have i1:ik (bJ o) 1=o.b:=by unfold ik;rw[CV h2];rfl
  have il:1<(bJ o).ins.length:=by rw[CV h2];exact Nat.lt_of_sub_eq_succ rfl
  have n3:¬o.af=3:=by omega
  simp only[ak n3,ay k,ay il,i1,mr m fo.b.1];rw[nK];simp only[fh,FX,z9];omega
 ·have n3:¬o.af=3:=by omega
  have n4:¬o.af=4:=by omega
  have n7:¬o.af=7:=by omega
  have en:(bJ o).cO=[o.size,o.aE]++FQ o.bM++[o.lo,o.hi]:=by
   show iF o=_;unfold iF;rw[ak kc,ay k,ay (by omega)]
  have e1:fq (bJ o) 0=o.size:=by unfold fq;rw[en];rfl
  have e2:fq (bJ o) 1=o.aE:=by unfold fq;rw[en];rfl
  simp only[ak n3,ak n4,ak n7,ay k,e1,e2];unfold M.ri;generalize M.aq m o.a=a at *;generalize M.aq m o.to=z at *;by_cases hs:o.size=0\/o.aE=0
  ·rw[ay hs]
   have:M.dP o.size a.h o.aE false=0:=by unfold M.dP;rw[ay (by omega)]
   rw[this];have hz:¬z.h=0:=by have:=fz.h;omega
   have yF:(z.h==0)=false:=by simpa using hz
   rw[yF];rfl
  ·rw[ak hs,D.Ij false (by have:=fa.h;omega) (by omega) (by omega),D.Ij false (by have:=fa.w;omega) (by omega) (by omega)]
   rfl
 ·have n3:¬o.af=3:=by omega
  have n4:¬o.af=4:=by omega
  have n5:¬(o.af=5\/o.af=6):=by omega
  have n8:¬o.af=8:=by omega
  have n9:¬o.af=9:=by omega
  have n10:¬o.af=10:=by omega
  simp only[ak n3,ak n4,ak n5,ak n8,ak n9,ak n10,ay k];rw[nK,FX,z9];omega
 ·have n3:¬o.af=3:=by omega
  have n4:¬o.af=4:=by omega
  have n5:¬(o.af=5\/o.af=6):=by omega
  have n7:¬o.af=7:=by omega
  have hs:o.bM=[]:=List.eq_nil_of_length_eq_zero (by rw[fo.bM,ak (by rw[kh];omega),ak n4]);have en:(bJ o).cO=[o.aS,o.below,o.left,o.right]:=by
   show iF o=_;unfold iF;rw[ak kc,ak n5,ay k,ak (by omega),hs];rfl
  have e0:fq (bJ o) 0=o.aS:=by unfold fq;rw[en];rfl
  have e1:fq (bJ o) 1=o.below:=by unfold fq;rw[en];rfl
  have e2:fq (bJ o) 2=o.left:=by unfold fq;rw[en];rfl
  have e3:fq (bJ o) 3=o.right:=by unfold fq;rw[en];rfl
  simp only[ak n3,ak n4,ak n5,ak n7,ay k,e0,e1,e2,e3]
  rfl
 ·have n3:¬o.af=3:=by omega
  have n4:¬o.af=4:=by omega
  have n5:¬(o.af=5\/o.af=6):=by omega
  have n7:¬o.af=7:=by omega
  have n8:¬o.af=8:=by omega
  simp only[ak n3,ak n4,ak n5,ak n7,ak n8,ay k]
 ·have h2:M.dr o.af=true:=by rw[od];omega
  have i1:ik (bJ o) 1=o.b:=by unfold ik;rw[CV h2];rfl
  have il:1<(bJ o).ins.length:=by rw[CV h2];exact Nat.lt_of_sub_eq_succ rfl
  have n3:¬o.af=3:=by omega
  have n4:¬o.af=4:=by omega
  have n5:¬(o.af=5\/o.af=6):=by omega
  have n7:¬o.af=7:=by omega
  have n8:¬o.af=8:=by omega
  have n9:¬o.af=9:=by omega
  simp only[ak n3,ak n4,ak n5,ak n7,ak n8,ak n9,ay k,ay il,i1,mr m fo.b.1];rw[nK];simp only[fh,FX,beq_iff_eq,and_assoc]
end R
namespace R
def iz(k:Int):List Char:=match bT k with|some p=>p.2|none=>[]
def wj(o:Op):Bool:=
 (List.range (iz o.af).length).all fun k=>!((iz o.af).getD k (Char.ofNat 32)==(Char.ofNat 119)&&(decide (fq o k<1073741824)||decide (fq o (k+1) < -31)||decide (30<fq o (k+1))))
def mW(o:Op):Bool:=!(decide (0<o.cO.length)&&o.af != 8&&decide (fq o (o.cO.length-1)<fq o (o.cO.length-2)))
def pL(g:bX)(o:Op):Bool:=
 (List.range o.ins.length).all fun k=>!(o.ins.length==3&&decide (0<k)&&(pK g (ik o k)).zero != 0)&&!(decide (o.ins.length<3)&&o.af != 4&&(pK g (ik o k)).zero != (pK g o.out).zero)
def uF(t:M.Tn):Bool:=t.data.all (fun v=>!(decide (1073741824<v)||decide (v < -1073741824)))&&!(t.af==2&&t.zero != 0)
def xS(g:bX):Bool:=g.ts.all uF&&g.ag.all (fun o=>wj o&&mW o&&pL g o)
def rZ(g:bX):Int:=
 if uE g=false then 3 else if pJ g=false then 4 else if g.ag.all (gE g)=false then 5 else if xS g=false then 6 else 0
theorem aqc{t:M.Tn}(h:yv t):uF t=M.qA t:=by
 unfold uF M.qA;by_cases k2:t.af=2
 ·rw[ak (fun h=>h k2),k2]
  congr 1
  cases hz:(t.zero==0)<;>simp_all
 ·rw[ay k2]
  have e:(t.af==2)=false:=by simpa using k2
  rw[e];by_cases k1:t.af=1
  ·have:t.data.all (fun v=>!(decide (1073741824<v)||decide (v < -1073741824)))=true:=by
    rw[jg];intro v hv;have:=(h.lh k1).2 v hv;simp;omega
   rw[this];rfl
  ·rw[h.Wr k1 k2];rfl
theorem FZ{c:M.Sc}(h:tU c):M.rj c=true↔¬(c.eE<1073741824\/c.shift < -31\/30<c.shift):=by
 unfold M.rj;have:=h.m1;simp;omega
theorem LM{m:M.Md}{o:M.Op}(fo:kK o)(hW:M.cm o.af=true)(hb:(M.aq m o.bA).zero=0):pL (dp m) (bJ o)=M.jS m o:=by
 unfold pL M.jS ik;rw[zj hW,ay hW];show((List.range 3).all _)=_;rw[show List.range 3=[0,1,2] from rfl];rw[nK];simp[mr m fo.ws.1,mr m fo.bs.1,hb]
theorem acO{α:Type}{l:List α}(h:l.length=3):∃a b c,l=[a,b,c]:=by
 match l,h with
 | [a,b,c],_=>exact⟨a,b,c,rfl⟩
theorem aqd{m:M.Md}(hF:p8 m)(hg:M.lF m=true)(Oq:∀t∈m.au,M.qA t=true){o:M.Op}(ho:o∈m.ag) :
  (wj (bJ o)&&mW (bJ o)&&pL (dp m) (bJ o))=M.lG m o:=by
 have fo:=hF.os o ho;have nr:=Tq hg ho;have k0:=fo.k0;have k1:=fo.k1;have pI:=fo.bM;have ek:(bJ o).af=o.af:=rfl;have acP:M.cm o.af=true->(M.aq m o.bA).zero=0:=by
  intro hW;obtain⟨by_,hm,hr,-⟩:=D.Ql hg;obtain⟨i,hi⟩:=mM ho;have h:=hr i o hi;unfold M.m8 at h;have h2:¬M.dr o.af=true:=by rw[od];rw[kh] at hW;omega
  rw[ak h2,ak (by rw[hW];decide),fh,fh] at h;obtain⟨t0,t1,t2⟩:=M.yw h.2.2;have e:M.aq m o.bA=m.au[o.bA.toNat]:=by
   unfold M.aq;rw[ak (by omega),List.getD,aT (by omega)];rfl
  have e2:m.au[o.bA.toNat].af=2:=by
   rw[List.getD,dY,aT (by omega)] at t2;exact t2
  have:=Oq _ (List.getElem_mem (by omega:o.bA.toNat<m.au.length));unfold M.qA at this;rw[ak (fun h=>h e2),fh] at this;rw[e];simpa using this.2
 unfold M.lG;rcases(show(o.af=1\/o.af=2)\/o.af=3\/o.af=4\/(o.af=5\/o.af=6)\/o.af=7\/o.af=8\/o.af=9\/o.af=10 by omega) with k|k|k|k|k|k|k|k
 ·have hW:M.cm o.af=true:=by rw[kh];omega
  rw[ay hW] at pI;obtain⟨c,hc⟩:=List.length_eq_one_iff.mp pI;have fc:=fo.gE c (by rw[hc];simp);have en:(bJ o).cO=[o.aE,if o.same=true then 1 else 0,c.eE,c.shift,o.lo,o.hi]:=by
   show iF o=_;unfold iF;rw[ay k,ay (show 1<=o.af/\o.af<=7 by omega),hc];rfl
  have es:iz o.af=[(Char.ofNat 117),(Char.ofNat 98),(Char.ofNat 119),(Char.ofNat 115),(Char.ofNat 115),(Char.ofNat 115)]:=by unfold iz bT;rw[ay k]
  rw[LM fo hW (acP hW),hc]
  congr 1
  unfold wj mW fq;rw[ek,es,en];show(((List.range 6).all _)&&_)=_;rw[show List.range 6=[0,1,2,3,4,5] from rfl,nK];have k8:o.af≠8:=by omega
  simp[FZ fc,k8];omega
 ·have hW:M.cm o.af=true:=by rw[kh];omega
  rw[ay hW] at pI;obtain⟨c,hc⟩:=List.length_eq_one_iff.mp pI;have fc:=fo.gE c (by rw[hc];simp);have en:(bJ o).cO=[c.eE,c.shift,o.lo,o.hi]:=by
   show iF o=_;unfold iF;rw[ak (by omega),ak (by omega),ak (by omega),ay (show 1<=o.af/\o.af<=7 by omega),hc];rfl
  have es:iz o.af=[(Char.ofNat 119),(Char.ofNat 115),(Char.ofNat 115),(Char.ofNat 115)]:=by unfold iz bT;rw[ak (by omega),ay k]
  rw[LM fo hW (acP hW),hc]
  congr 1
  unfold wj mW fq;rw[ek,es,en];show(((List.range 4).all _)&&_)=_;rw[show List.range 4=[0,1,2,3] from rfl,nK];have k8:o.af≠8:=by omega
  simp[FZ fc,k8];omega
 ·have hW:¬M.cm o.af=true:=by rw[kh];omega
  have h2:M.dr o.af=true:=by rw[od];omega
  rw[ak hW,ay k] at pI;obtain⟨c,d,e,hc⟩:=acO pI;have fc:=fo.gE c (by rw[hc];simp);have fd:=fo.gE d (by rw[hc];simp);have fe:=fo.gE e (by rw[hc];simp);have en:(bJ o).cO=[c.eE,c.shift,d.eE,d.shift,e.eE,e.shift,o.lo,o.hi]:=by
   show iF o=_;unfold iF;rw[ak (by omega),ak (by omega),ak (by omega),ay (show 1<=o.af/\o.af<=7 by omega),hc];rfl
  have es:iz o.af=[(Char.ofNat 119),(Char.ofNat 115),(Char.ofNat 119),(Char.ofNat 115),(Char.ofNat 119),(Char.ofNat 115),(Char.ofNat 115),(Char.ofNat 115)]:=by unfold iz bT;rw[ak (by omega),ak (by omega),ay k]
  have ez:pL (dp m) (bJ o)=M.jS m o:=by
   unfold pL M.jS ik;rw[CV h2,ak hW,ay k,ek];show((List.range 2).all _)=_;rw[show List.range 2=[0,1] from rfl];simp[k]
  rw[ez,hc]
  congr 1
  unfold wj mW fq;rw[ek,es,en];show(((List.range 8).all _)&&_)=_;rw[show List.range 8=[0,1,2,3,4,5,6,7] from rfl,nK];have k8:o.af≠8:=by omega
  simp[FZ fc,FZ fd,FZ fe,k8];omega
 all_goals
  have hW:¬M.cm o.af=true:=by rw[kh];omega
  have n4:¬o.af=4:=by omega
  rw[ak hW,ak n4] at pI;have hc:o.bM=[]:=List.eq_nil_of_length_eq_zero pI
 ·have h2:¬M.dr o.af=true:=by rw[od];omega
  have en:(bJ o).cO=[o.size,o.aE,o.lo,o.hi]:=by
   show iF o=_;unfold iF;rw[ak (by omega),ay k,ay (show 1<=o.af/\o.af<=7 by omega),hc];rfl
  have es:iz o.af=[(Char.ofNat 117),(Char.ofNat 117),(Char.ofNat 115),(Char.ofNat 115)]:=by unfold iz bT;rw[ak (by omega),ak (by omega),ak (by omega),ay k]
  have ez:pL (dp m) (bJ o)=M.jS m o:=by
   unfold pL M.jS ik;rw[CW h2 hW,ak hW,ak n4,ek];show((List.range 1).all _)=_;rw[show List.range 1=[0] from rfl,nK];have e1:(bJ o).out=o.to:=rfl;simp[n4,h2,e1,mr m fo.a.1,mr m fo.to.1]
  rw[ez,hc]
  congr 1
  unfold wj mW fq;rw[ek,es,en];show(((List.range 4).all _)&&_)=_;rw[show List.range 4=[0,1,2,3] from rfl,nK];have k8:o.af≠8:=by omega
  simp[k8]
 ·have h2:¬M.dr o.af=true:=by rw[od];omega
  have en:(bJ o).cO=[o.lo,o.hi]:=by
   show iF o=_;unfold iF;rw[ak (by omega),ak (by omega),ak (by omega),ay (show 1<=o.af/\o.af<=7 by omega),hc];rfl
  have es:iz o.af=[(Char.ofNat 115),(Char.ofNat 115)]:=by unfold iz bT;rw[ak (by omega),ak (by omega),ak (by omega),ak (by omega),ay k]
  have ez:pL (dp m) (bJ o)=M.jS m o:=by
   unfold pL M.jS ik;rw[CW h2 hW,ak hW,ak n4,ek];show((List.range 1).all _)=_;rw[show List.range 1=[0] from rfl,nK];have e1:(bJ o).out=o.to:=rfl;simp[n4,h2,e1,mr m fo.a.1,mr m fo.to.1]
  rw[ez,hc]
  congr 1
  unfold wj mW fq;rw[ek,es,en];show(((List.range 2).all _)&&_)=_;rw[show List.range 2=[0,1] from rfl,nK];have k8:o.af≠8:=by omega
  simp[k8]
 ·have h2:¬M.dr o.af=true:=by rw[od];omega
  have mb:=fo.Qj (by omega);have es:iz o.af=[(Char.ofNat 117),(Char.ofNat 117),(Char.ofNat 117),(Char.ofNat 117)]:=by unfold iz bT;rw[ak (by omega),ak (by omega),ak (by omega),ak (by omega),ak (by omega),ay k]
  have ez:pL (dp m) (bJ o)=M.jS m o:=by
   unfold pL M.jS ik;rw[CW h2 hW,ak hW,ak n4,ek];show((List.range 1).all _)=_;rw[show List.range 1=[0] from rfl,nK];have e1:(bJ o).out=o.to:=rfl;simp[n4,h2,e1,mr m fo.a.1,mr m fo.to.1]
  rw[ez,hc,mb.1,mb.2]
  congr 1
  unfold wj mW;rw[ek,es,k];show(((List.range 4).all _)&&_)=_;rw[show List.range 4=[0,1,2,3] from rfl,nK];simp
 ·have h2:¬M.dr o.af=true:=by rw[od];omega
  have mb:=fo.Qj (by omega);have en:(bJ o).cO=[]:=by
   show iF o=_;unfold iF;rw[ak (by omega),ak (by omega),ak (by omega),ak (by omega),hc];rfl
  have es:iz o.af=[]:=by unfold iz bT;rw[ak (by omega),ak (by omega),ak (by omega),ak (by omega),ak (by omega),ak (by omega),ay k]
  have ez:pL (dp m) (bJ o)=M.jS m o:=by
   unfold pL M.jS ik;rw[CW h2 hW,ak hW,ak n4,ek];show((List.range 1).all _)=_;rw[show List.range 1=[0] from rfl,nK];have e1:(bJ o).out=o.to:=rfl;simp[n4,h2,e1,mr m fo.a.1,mr m fo.to.1]
  rw[ez,hc,mb.1,mb.2]
  congr 1
  unfold wj mW;rw[ek,es,en]
  rfl
 ·have h2:M.dr o.af=true:=by rw[od];omega
  have mb:=fo.Qj (by omega);have en:(bJ o).cO=[]:=by
   show iF o=_;unfold iF;rw[ak (by omega),ak (by omega),ak (by omega),ak (by omega),hc];rfl
  have es:iz o.af=[]:=by unfold iz bT;rw[ak (by omega),ak (by omega),ak (by omega),ak (by omega),ak (by omega),ak (by omega),ak (by omega),ay k]
  have ez:pL (dp m) (bJ o)=M.jS m o:=by
   unfold pL M.jS ik;rw[CV h2,ak hW,ak n4,ek];show((List.range 2).all _)=_;rw[show List.range 2=[0,1] from rfl,nK];have e1:(bJ o).out=o.to:=rfl;simp[n4,h2,e1,mr m fo.a.1,mr m fo.b.1,mr m fo.to.1]
  rw[ez,hc,mb.1,mb.2]
  congr 1
  unfold wj mW;rw[ek,es,en]
  rfl
theorem Tt{α:Type}{l:List α}{p q:α->Bool}(h:∀x∈l,p x=q x):l.all p=l.all q:=by
 rw[nK,jg,jg];exact forall_congr' fun x=>forall_congr' fun hx=>by rw[h x hx]
theorem Mc{m:M.Md}(hF:p8 m)(hg:M.lF m=true):xS (dp m)=M.sC m:=by
 unfold xS M.sC;show(m.au.all uF&&(m.ag.map bJ).all _)=_;rw[Tt fun t ht=>aqc (hF.ts t ht),List.all_map]
 cases hb:m.au.all M.qA with
 | false=>rfl
 | true=>
  rw[jg] at hb;rw[Bool.true_and,Bool.true_and];exact Tt fun o ho=>aqd hF hg hb ho
theorem aqe{m:M.Md}(hF:p8 m):rZ (dp m)=M.check m:=by
 unfold rZ M.check;rw[ap3 m hF,ap5 m hF]
 cases hl:M.m6 m with
 | false=>rfl
 | true=>
  cases hg:M.lF m with
  | false=>rfl
  | true=>
   have e:(dp m).ag.all (gE (dp m))=M.zI m:=by
    show(m.ag.map bJ).all _=m.ag.all _;rw[List.all_map];exact Tt fun o ho=>aqb hF hl hg ho
   rw[e,Mc hF hg]
end R
open Go.RowKit
namespace R
theorem aqf{α:Type}(f:List UInt8->fT α):nx f ok=f:=by
 funext l
 unfold nx
 cases f l<;>rfl
theorem acQ(us bs:List Char):aW (us++bs)=nx (aW us) fun xs=>nx (aW bs) fun ys=>ok (xs++ys):=by
 induction us with
 | nil=>
  rw[AT];show aW bs=nx (aW bs) fun ys=>ok ys;exact(aqf (aW bs)).symm
 | cons c cs ih=>
  rw[CO];show nx (cO c) (fun v=>nx (aW (cs++bs)) fun vs=>ok (v::vs))=_;refine congrArg (nx (cO c)) ?_
  funext v
  rw[ih,wg];refine congrArg (nx (aW cs)) ?_
  funext xs
  rw[wg]
  rfl
theorem aqg(c:Char):aW [c]=nx (cO c) fun v=>ok [v]:=rfl
theorem aqh{cs:List Char}{c:Char}{l r r':List UInt8}{vs:List Int}{v:Int}(h:aW cs l=some (vs,r))(h':cO c r=some (v,r')):aW (cs++[c]) l=some (vs++[v],r'):=by
 rw[acQ,nx,h];show nx (aW [c]) (fun ys=>ok (vs++ys)) r=_;rw[aqg,wg,nx,h']
 rfl
theorem aqi{cs ds:List Char}{c:Char}{l r:List UInt8}{vs:List Int}(h:aW cs l=some (vs,r))(h':cO c r=none):aW (cs++c::ds) l=none:=by
 rw[acQ,nx,h];show nx (aW (c::ds)) (fun ys=>ok (vs++ys)) r=_;rw[CO,nx,h']
theorem Oy{c:Char}{r r':List UInt8}{v:Int}(ht:take r (if c=(Char.ofNat 119) then 4 else 1) (c==(Char.ofNat 115)||c==(Char.ofNat 119))=(v,r',true))(h:¬(c=(Char.ofNat 98)/\¬v<2)):cO c r=some (v,r'):=by
 unfold cO;rw[nx,rY ht];show(if _ then _ else _)=_;rw[ak h]
theorem Oz{c:Char}{r r':List UInt8}{v:Int}(ht:take r (if c=(Char.ofNat 119) then 4 else 1) (c==(Char.ofNat 115)||c==(Char.ofNat 119))=(v,r',false)):cO c r=none:=by
 unfold cO;rw[nx,qo ht]
theorem aqj{c:Char}{r r':List UInt8}{v:Int}(ht:take r (if c=(Char.ofNat 119) then 4 else 1) (c==(Char.ofNat 115)||c==(Char.ofNat 119))=(v,r',true))(h:c=(Char.ofNat 98)/\¬v<2):cO c r=none:=by
 unfold cO;rw[nx,rY ht];show(if _ then _ else _)=_;rw[ay h]
def cY(k:Int):Int:=match bT k with|some p=>p.1|none=>-1
def pN(c:Char):UInt8:=c.toNat.toUInt8
def acR(c:Char):Prop:=c=(Char.ofNat 117)\/c=(Char.ofNat 115)\/c=(Char.ofNat 98)\/c=(Char.ofNat 119)
theorem Kh(k:Int)(h:bT k≠none):k=1\/k=2\/k=3\/k=4\/k=5\/k=6\/k=7\/k=8\/k=9\/k=10:=by
 rcases Decidable.em (k=1\/k=2\/k=3\/k=4\/k=5\/k=6\/k=7\/k=8\/k=9\/k=10) with h' | h'
 ·exact h'
 ·refine aN ?_ h
  unfold bT;rw[ak (by omega),ak (by omega),ak (by omega),ak (by omega),ak (by omega),ak (by omega),ak (by omega),ak (by omega)]
theorem Ki(k:Int)(h:bT k≠none):(1<=cY k/\cY k<=3)/\(iz k).length<=8/\∀c∈iz k,acR c:=by
 rcases Kh k h with rfl|rfl|rfl|rfl|rfl|rfl|rfl|rfl|rfl|rfl
 all_goals
  exact⟨by decide,by decide,by unfold acR;decide⟩
end R
theorem acS(k:Int)(w:World) :
  Calls prog 144 #[.int .i64 k] w fun e w'=>e=.returned (.tuple #[.int .i64 (R.cY k),.string (S9 ((R.iz k).map R.pN))])/\w'=w:=by
 by_cases h:R.bT k=none
 ·have h1:¬(k=1\/k=2\/k=3\/k=4\/k=5\/k=6\/k=7\/k=8\/k=9\/k=10):=by
   intro hk;rcases hk with rfl|rfl|rfl|rfl|rfl|rfl|rfl|rfl|rfl|rfl<;>exact aN h (by decide)
  have hr:=ae (show R.cY k = -1 by unfold R.cY;rw[h]);have hs:=ae (show(R.iz k).map R.pN=[] by unfold R.iz;rw[h];rfl);have n1:(k==1)=false:=by simp;omega
  have n2:(k==2)=false:=by simp;omega
  have n3:(k==3)=false:=by simp;omega
  have n4:(k==4)=false:=by simp;omega
  have n5:(k==5)=false:=by simp;omega
  have n6:(k==6)=false:=by simp;omega
  have n7:(k==7)=false:=by simp;omega
  have n8:(k==8)=false:=by simp;omega
  have n9:(k==9)=false:=by simp;omega
  have n10:(k==10)=false:=by simp;omega
  clear h1 h;go_enter func144,ntmps144;go_wp2
  go_ret2
  exact⟨by rw[hr.out,hs.out];rfl,rfl⟩
 ·rcases R.Kh k h with rfl|rfl|rfl|rfl|rfl|rfl|rfl|rfl|rfl|rfl
  all_goals
   clear h;go_enter func144,ntmps144;go_wp2
   go_ret2
   exact⟨rfl,rfl⟩
end Go.Proofs.YtcnhfffgbamonabGreat
