import Derived.Test.YtcnhfffgbamonabGreatZ16
set_option maxRecDepth 100000
set_option maxHeartbeats 6400000
namespace Go.Proofs.YtcnhfffgbamonabGreat
open Go.Proofs.Tryz
open Go.RowKit
theorem alS(s o:M.Op)(sa ao:Option Addr)(ps cs p c:Nat)(w:World) :
  Calls prog 96 #[.agg (oo s (.slice sa ps cs)),.agg (oo o (.slice ao p c))] w fun e w'=>e=.returned (.agg #[.int .i64 s.af,.int .i64 s.a,.int .i64 s.b,.int .i64 s.aP,.int .i64 s.bA,.int .i64 o.to,.int .i64 s.size,.int .i64 s.aE,.bool s.same,.slice sa ps cs,.int .i64 (R.cU s.lo o.lo o.hi),.int .i64 (R.cU s.hi o.lo o.hi),.int .i64 s.aS,.int .i64 s.below,.int .i64 s.left,.int .i64 s.right])/\w.grownBy w' none:=alL s o sa ao ps cs p c w
theorem qR{w w':World}{a:Addr}{v:Value}{x:Bool}(hg:w.grownBy w' none)(hc:w.cell? a=some v)(hf:w.frozen? a=x):w'.frozen? a=x:=by
 have hb:=hg.block a.block (pY w _ hc) (by simp);rw[<-hf];unfold World.frozen?;simp only[hb]
theorem jW.there{w:World}{B1 B2 g n c i:Nat}{os:List M.Op}(h:jW w B1 B2 (.slice (some ⟨g,0,none⟩) n c) os)(hi:i<os.length):w.there g (i*16) 16:=fun j hj=>by
 obtain⟨ps,h1,h2,h3⟩:=h;obtain⟨g',dV,e,-,-,hB,h4,h5,h6,h7⟩:=xp h2 (by omega);simp only[j8,oI,and_true] at e;subst e;refine⟨?_,hB.free _⟩;rw[hB.cell,Array.getElem?_eq_getElem (by omega)];rfl
def setAll(xs:List Value)(p:Nat):List Value->List Value
 | []=>xs
 | v::vs=>setAll (xs.set p v) (p+1) vs
theorem YC:∀(vs xs:List Value) (p:Nat),(setAll xs p vs).length=xs.length
 | [],_,_=>rfl
 | v::vs,xs,p=>by rw[setAll,YC vs,kG]
theorem YD:∀(vs xs:List Value) (p j:Nat),(setAll xs p vs)[j]?=if p<=j/\j<p+vs.length/\j<xs.length then vs[j-p]? else xs[j]?
 | [],xs,p,j=>by rw[ak (by simp;omega)];rfl
 | v::vs,xs,p,j=>by
  rw[setAll,YD vs,kG,oe];by_cases c:p=j
  ·subst c
   rw[ak (by omega),ay rfl];by_cases c2:p<xs.length
   ·rw[ay c2,ay ⟨bj _,by simp,c2⟩,Nat.sub_self];rfl
   ·rw[ak c2,ak (by omega),cX (by omega)]
  ·rw[ak c]
   by_cases c2:p+1<=j/\j<p+1+vs.length/\j<xs.length
   ·rw[ay c2,ay ⟨by omega,by simp;omega,c2.2.2⟩]
    rw[show j-p=(j-(p+1))+1 by omega];rfl
   ·rw[ak c2,ak (by simp;omega)]
theorem alT{α:Type}(f:α->List Value)(n:Nat)(hf:∀x,(f x).length=n)(xs:List α)(i:Nat)(y:α)(hi:i<xs.length):setAll (xs.flatMap f) (i*n) (f y)=(xs.set i y).flatMap f:=by
 have hl:∀l:List α,(l.flatMap f).length=l.length*n:=by
  intro l
  induction l with
  | nil=>simp
  | cons a l ih=>rw[List.flatMap_cons,nC,hf,ih,qe,Nat.add_mul,Nat.one_mul,Nat.add_comm]
 by_cases hn:n=0
 ·subst hn
  rw[List.eq_nil_of_length_eq_zero (show(setAll (xs.flatMap f) (i*0) (f y)).length=0 by rw[YC,hl];simp),List.eq_nil_of_length_eq_zero (show((xs.set i y).flatMap f).length=0 by rw[hl];simp)]
 ·apply nF
  intro j;rw[YD,hl,hf];by_cases hj:j<xs.length*n
  ·have hd:j/n<xs.length:=by rw[Nat.div_lt_iff_lt_mul (by omega)];exact hj
   have hm:j%n<n:=abc _ (by omega);have he:j/n*n+j%n=j:=by rw[Nat.mul_comm];exact Nat.div_add_mod j n
   obtain⟨z,hz⟩:∃z,(xs.set i y)[j/n]?=some z:=⟨_,aT (by rw[kG];exact hd)⟩;have e1:=lL f n hf (xs.set i y) (j/n) (j%n) z hz hm;rw[he] at e1;rw[e1];by_cases c:i=j/n
   ·have c1:i*n<=j/\j<i*n+n/\j<xs.length*n:=by rw[c];omega
    rw[ay c1];rw[<-c,oe,ay rfl,ay hi] at hz;injection hz with hz;rw[<-hz]
    congr 1
    rw[c];omega
   ·rw[ak]
    ·rw[oe,ak c] at hz
     have e2:=lL f n hf xs (j/n) (j%n) z hz hm;rw[he] at e2;rw[e2]
    ·rintro ⟨h1,h2,-⟩
     apply c
     have h3:i<=j/n:=(Nat.le_div_iff_mul_le (by omega)).mpr h1;have h4:j/n<i+1:=by rw[Nat.div_lt_iff_lt_mul (by omega),Nat.add_mul,Nat.one_mul];exact h2
     omega
  ·rw[ak (by omega),cX (by rw[hl];omega),cX (by rw[hl,kG];omega)]
theorem YE{base:Nat}{e:TypeId}{size n g c m:Nat}:∀(vs:List Value) (p:Nat) (w:World) (xs:List Value),w.ownsRow base e size (.slice (some ⟨g,0,none⟩) m c) n xs->(w.setCells g p vs).ownsRow base e size (.slice (some ⟨g,0,none⟩) m c) n (setAll xs p vs)
 | [],_,_,_,h=>h
 | v::vs,p,_,_,h=>YE vs (p+1) _ _ (DW h p v)
theorem Rx(g:Nat):∀(vs:List Value) (p:Nat) (w:World),w.grownBy (w.setCells g p vs) (some g)
 | [],_,_=>gL _ _
 | v::vs,p,w=>aC (bD w g p v) (Rx g vs (p+1) _)
theorem jW.bN{w:World}{B1 B2 g n c i:Nat}{os:List M.Op}{o:M.Op}(h:jW w B1 B2 (.slice (some ⟨g,0,none⟩) n c) os)(hi:os[i]?=some o) :
  ∃sa sp sc,B1<=g/\w.rangeAt g (i*16) (aO o (.slice sa sp sc)).toList/\w.there g (i*16) 16/\∀(o':M.Op) w',o'.bM=o.bM->w.grownBy w' none->jW (w'.setCells g (i*16) (aO o' (.slice sa sp sc)).toList) B1 B2 (.slice (some ⟨g,0,none⟩) n c) (os.set i o'):=by
 have fC:=M.bP hi;have oW:=h.there fC;obtain⟨ps,h1,h2,h3⟩:=h;obtain⟨g',dV,e,hmn,hbg,hB,-⟩:=xp h2 (by omega);simp only[j8,oI,and_true] at e;subst e;subst h1;rw[dY] at hi;obtain⟨p,hp,rfl⟩:=Option.map_eq_some_iff.1 hi;obtain⟨sa,sp,sc,pW⟩:=(h3 p (bV hp)).bT;obtain⟨g2,e2,-,-,hc⟩:=nZ h2 (by omega);simp only[j8,oI,and_true] at e2;subst e2;refine⟨sa,sp,sc,hbg,fun j v hv=>?_,oW,fun o' w' ho hg=>?_⟩
 ·rw[<-pW] at hv
  have hj:j<16:=by have:=(List.getElem?_eq_some_iff.1 hv).1;simpa[aO] using this
  rw[hc _ (by simp at fC ⊢;omega),lL (fun p:M.Op×Value=>(aO p.1 p.2).toList) 16 (fun a=>rfl) ps i j p hp hj,hv]
 ·have h4:=YE (aO o' (.slice sa sp sc)).toList (i*16) w' _ (eW h2 hg)
  have Je:i<ps.length:=by simpa using fC
  have e3:=alT (fun p:M.Op×Value=>(aO p.1 p.2).toList) 16 (fun a=>rfl) ps i (o',.slice sa sp sc) Je;have qN:=hB.kept hg (by simp);refine⟨ps.set i (o',.slice sa sp sc),by rw[List.map_set],?_,fun q hq=>?_⟩
  ·rw[e3] at h4
   simpa using h4
  ·have ap:∀v l,gy w B2 v l->gy (w'.setCells g (i*16) (aO o' (.slice sa sp sc)).toList) B2 v l:=fun v l hI=>pE (eW hI hg) qN (by decide) (Rx _ _ _ _)
   rcases XF hq with hq|rfl
   ·exact ap _ _ (h3 q hq)
   ·have:=h3 p (bV hp)
    rw[pW,<-ho] at this;exact ap _ _ this
theorem alW{m:M.Md}{k:Nat}{o:M.Op}(h:m.ag[k]?=some o)(hh:H.og m (H.pF m k) o=none):H.pF m (k+1)=H.pF m k++[o]:=by
 rw[H.Rh h];unfold H.joinStep;rw[hh]
theorem alX{m:M.Md}{k i:Nat}{o s:M.Op}(h:m.ag[k]?=some o)(hh:H.og m (H.pF m k) o=some i)(hs:(H.pF m k)[i]?=some s):H.pF m (k+1)=(H.pF m k).set i (H.eU s o):=by
 rw[H.Rh h];unfold H.joinStep;rw[hh]
 apply nF
 intro j;rw[List.getElem?_modify,oe];by_cases c:i=j
 ·subst c
  rw[hs,ay rfl,ay (M.bP hs)];simp
 ·rw[ak c]
  cases (H.pF m k)[j]?<;>simp[c]
theorem alY(m:Nat)(md:M.Md)(w:World)(h:cN w m md)(iq:md.ag.length<=255)(j9:md.aJ.length<=255) :
  Calls prog 54 #[.pointer (some ⟨m,0,none⟩)] w fun e w'=>e=.returned (.tuple #[])/\cN w' m (H.oS md)/\Below m w w':=by
 obtain⟨i0,hi,cQ,cR,cZ⟩:=info_parts Tryz.Lt;have zO:=ae cQ;clear cQ;have HM:=ae h;obtain⟨a1,c1,a2,c2,a3,c3,hB,hT,hO,hU⟩:=h;have q1:w.cell? ⟨m,1,none⟩=some (.slice a2 md.ag.length c2):=hB.cell 1;have pX:=hB.lt;have HO:=ae hO;clear hB hT hO hU;go_enter func54,ntmps54;go_wp2;clear q1;go_loopw[2,11] (fun v i wr=>∃k:Nat,k<=md.ag.length/\i=.int .i64 k/\jW wr w.heap.size (m+1) v (H.pF md k)/\w.grownBy wr none) (fun _ i _=>md.ag.length-(intOf i).toNat)
 case atStart=>exact⟨0,bK _,rfl,jW.nil _ _ _,gL _ _⟩
 case round=>
  obtain⟨k,hk,rfl,kQ,aF⟩:=hrel;have vG:=H.Ri md k hk;have EZ:=aF.size;by_cases aK:k<md.ag.length
  ·obtain⟨o,ho⟩:∃o,md.ag[k]?=some o:=⟨_,aT aK⟩
   obtain⟨g,ao,p,cp,rfl,gN,-,sR,hR⟩:=(HO.out.Z aF).get k o ho;obtain⟨la,lc,rfl⟩:=kQ.bT;have Jg:=ae (fun hh=>alW ho hh);have Ch:=ae (fun i hh s hs=>alX (i:=i) (s:=s) ho hh hs);have DX:=ae kQ;have bH:=ae aF;clear kQ aF ho;obtain⟨L,HL⟩:∃L,Hid (H.pF md k=L):=⟨_,rfl⟩;rw[HL.out] at DX vG Jg Ch ⊢;have lp:=ae (aj.bB wr 93 (aO o (.slice ao p cp)));have dN:=ae (aQ wr (.cells (aO o (.slice ao p cp)) 93) none);have As:=ae sR;have HC:=ae (alP m md (m+1) la L.length lc L o ao p cp _ (HM.out.Z (aC bH.out dN.out)) ((DX.out.Z dN.out).ag (by omega)) iq j9 (by omega));clear sR;go_wp2_with (first|(refine wpList_load_mid rfl 93 _ rfl g (k*16) rfl (aO o (.slice ao p cp)).toList _ hR underlying93 rfl Tryz.db ?_)|(refine aaY rfl 93 _ _ rfl wr.heap.size (aO o (.slice ao p cp)) rfl rfl 93 (aR 0 0 0 0 0 0 0 0 false (.slice none 0 0) 0 0 0 0 0 0) (aj.bB wr 93 _) Tryz.db rfl (nY ..) ?_;rw[World.setRow_alloc_new];generalize wr.alloc (.cells (aO o (.slice ao p cp)) 93)=w3 at *)|(refine dj rfl 93 _ rfl wr.heap.size rfl 93 (aO o (.slice ao p cp)) (0,0) _ lp.out underlying93 rfl Tryz.db ?_));refine HC.out.mono ?_;rintro e w4⟨rfl,bm⟩;have fB:=ae (aC dN.out bm);have jr:=ae (lp.out.kept bm (by simp));have oV:=ae (DX.out.Z fB.out);have DQ:=fB.out.size;clear bm hR lp dN HC
   cases hh:H.og md L o with
   | none=>
    have HN:=ae (Jg.out hh);obtain⟨ps,q1,q2,q3⟩:=oV.out;have e0:Rt none = -1:=rfl;rw[e0];clear hh e0;go_wp2_with (first|(refine dj rfl 93 _ rfl wr.heap.size rfl 93 #[.int .i64 o.af,.int .i64 o.a,.int .i64 o.b,.int .i64 o.aP,.int .i64 o.bA,.int .i64 o.to,.int .i64 o.size,.int .i64 o.aE,.bool o.same,.slice ao p cp,.int .i64 o.lo,.int .i64 o.hi,.int .i64 o.aS,.int .i64 o.below,.int .i64 o.left,.int .i64 o.right] (0,0) _ jr.out underlying93 rfl Tryz.db ?_)|(at_builtin;refine ng _ rfl _ _ 88 rfl w.heap.size 93 i0 (.agg (aR 0 0 0 0 0 0 0 0 false (.slice none 0 0) 0 0 0 0 0 0)) 16 144 underlying88 hi zO.out cR cZ rfl (by decide) _ _ _ rfl (q2.alloc _) ⟨w4.heap.size,0,none⟩ 1 1 (aO o (.slice ao p cp)).toList rfl rfl ?c1 ?c2 ?c3 ?c4 ?c5 ?_))
    case c1=>exact kb w4 93 (aO o (.slice ao p cp))
    case c2=>intro u hu;simp[aO] at hu;rcases hu with rfl|rfl|rfl|rfl|rfl|rfl|rfl|rfl|rfl|rfl|rfl|rfl|rfl|rfl|rfl|rfl<;>rfl
    case c3=>unfold maxLen;omega
    case c4=>omega
    case c5=>simp;omega
    intro v' w5 dC cV _;have bC:=aC (aQ w4 _ _) cV;have Bv:=jW.pk q1 q2 q3 (eW As.out fB.out) bC dC;have DY:=mE q2;have iC:Hid (w.grownBy w5 none):=mA (aC bH.out fB.out) bC DY;have IS:=ae Bv;clear dC cV bC q2 q3 Bv DY;go_wp2;go_roundw
    case rel=>exact⟨k+1,by omega,by go_num,by rw[HN.out];exact IS.out,iC.out⟩
    case measure=>simp[intOf];omega
   | some i=>
    obtain⟨-,-,s,hs,-,-⟩:=H.QI hh;have fC:=M.bP hs;have HN:=ae (Ch.out i hh s hs);have e0:Rt (some i)=(i:Int):=rfl;rw[e0];obtain⟨gl,dV,rfl,-⟩:=(show ∃gl dV,la=some ⟨gl,0,none⟩/\aj w4 gl 93 dV by
     obtain⟨ps,q1,q2,q3⟩:=oV.out;obtain⟨gl,dV,e,-,-,hB,-⟩:=xp q2 (by omega);exact⟨gl,dV,e,hB⟩)
    obtain⟨sa,sp,sc,dh,gG,oW,YF⟩:=oV.out.bN hs;have alZ:=ae YF;clear hh e0 hs YF;have a0:w4.cell? ⟨gl,i*16,none⟩=some (.int .i64 s.af):=gG 0 _ rfl;have a1:w4.cell? ⟨gl,i*16+1,none⟩=some (.int .i64 s.a):=gG 1 _ rfl;have a2:w4.cell? ⟨gl,i*16+2,none⟩=some (.int .i64 s.b):=gG 2 _ rfl;have a3:w4.cell? ⟨gl,i*16+3,none⟩=some (.int .i64 s.aP):=gG 3 _ rfl;have a4:w4.cell? ⟨gl,i*16+4,none⟩=some (.int .i64 s.bA):=gG 4 _ rfl;have a5:w4.cell? ⟨gl,i*16+5,none⟩=some (.int .i64 s.to):=gG 5 _ rfl;have a6:w4.cell? ⟨gl,i*16+6,none⟩=some (.int .i64 s.size):=gG 6 _ rfl;have a7:w4.cell? ⟨gl,i*16+7,none⟩=some (.int .i64 s.aE):=gG 7 _ rfl;have a8:w4.cell? ⟨gl,i*16+8,none⟩=some (.bool s.same):=gG 8 _ rfl;have a9:w4.cell? ⟨gl,i*16+9,none⟩=some (.slice sa sp sc):=gG 9 _ rfl;have Ry:w4.cell? ⟨gl,i*16+10,none⟩=some (.int .i64 s.lo):=gG 10 _ rfl;have Rz:w4.cell? ⟨gl,i*16+11,none⟩=some (.int .i64 s.hi):=gG 11 _ rfl;have RA:w4.cell? ⟨gl,i*16+12,none⟩=some (.int .i64 s.aS):=gG 12 _ rfl;have RB:w4.cell? ⟨gl,i*16+13,none⟩=some (.int .i64 s.below):=gG 13 _ rfl;have RC:w4.cell? ⟨gl,i*16+14,none⟩=some (.int .i64 s.left):=gG 14 _ rfl;have RD:w4.cell? ⟨gl,i*16+15,none⟩=some (.int .i64 s.right):=gG 15 _ rfl;obtain⟨b0,b1,b2,b3,b4,b5,b6,b7,b8,b9,b10,b11,sY,b13,b14,b15⟩:=dS (show aj w4 wr.heap.size 93 (oo o (.slice ao p cp)) from jr.out);have f0:w4.frozen? ⟨gl,i*16,none⟩=false:=(oW 0 (by decide)).2;have f1:w4.frozen? ⟨gl,i*16+1,none⟩=false:=(oW 1 (by decide)).2;have f2:w4.frozen? ⟨gl,i*16+2,none⟩=false:=(oW 2 (by decide)).2;have f3:w4.frozen? ⟨gl,i*16+3,none⟩=false:=(oW 3 (by decide)).2;have f4:w4.frozen? ⟨gl,i*16+4,none⟩=false:=(oW 4 (by decide)).2;have f5:w4.frozen? ⟨gl,i*16+5,none⟩=false:=(oW 5 (by decide)).2;have f6:w4.frozen? ⟨gl,i*16+6,none⟩=false:=(oW 6 (by decide)).2
    have f7:w4.frozen? ⟨gl,i*16+7,none⟩=false:=(oW 7 (by decide)).2;have f8:w4.frozen? ⟨gl,i*16+8,none⟩=false:=(oW 8 (by decide)).2;have f9:w4.frozen? ⟨gl,i*16+9,none⟩=false:=(oW 9 (by decide)).2;have f10:w4.frozen? ⟨gl,i*16+10,none⟩=false:=(oW 10 (by decide)).2;have f11:w4.frozen? ⟨gl,i*16+11,none⟩=false:=(oW 11 (by decide)).2;have f12:w4.frozen? ⟨gl,i*16+12,none⟩=false:=(oW 12 (by decide)).2;have f13:w4.frozen? ⟨gl,i*16+13,none⟩=false:=(oW 13 (by decide)).2;have f14:w4.frozen? ⟨gl,i*16+14,none⟩=false:=(oW 14 (by decide)).2;have f15:w4.frozen? ⟨gl,i*16+15,none⟩=false:=(oW 15 (by decide)).2;clear gG oW;go_wp2
    go_region_with (go_at_call 96;refine(alS s o sa ao sp sc p cp _).mono ?_;rintro e w6⟨rfl,fD⟩;have dJ:=aC (gH w4 none) fD;have c0:=aG dJ a0;have c1:=aG dJ a1;have c2:=aG dJ a2;have c3:=aG dJ a3;have c4:=aG dJ a4;have c5:=aG dJ a5;have c6:=aG dJ a6;have c7:=aG dJ a7;have c8:=aG dJ a8;have c9:=aG dJ a9;have c10:=aG dJ Ry;have c11:=aG dJ Rz;have c12:=aG dJ RA;have c13:=aG dJ RB;have c14:=aG dJ RC;have c15:=aG dJ RD;have e0:=qR dJ a0 f0;have e1:=qR dJ a1 f1;have e2:=qR dJ a2 f2;have e3:=qR dJ a3 f3;have e4:=qR dJ a4 f4;have e5:=qR dJ a5 f5;have e6:=qR dJ a6 f6;have e7:=qR dJ a7 f7;have e8:=qR dJ a8 f8;have e9:=qR dJ a9 f9;have e10:=qR dJ Ry f10;have e11:=qR dJ Rz f11;have e12:=qR dJ RA f12;have e13:=qR dJ RB f13;have e14:=qR dJ RC f14;have e15:=qR dJ RD f15;clear a0 a1 a2 a3 a4 a5 a6 a7 a8 a9 Ry Rz RA RB RC RD f0 f1 f2 f3 f4 f5 f6 f7 f8 f9 f10 f11 f12 f13 f14 f15 b0 b1 b2 b3 b4 b5 b6 b7 b8 b9 b10 b11 sY b13 b14 b15)
    all_goals
     have HP:=ae (alZ.out (H.eU s o) w6 rfl dJ);have fJ:=ae (dF (aC (aC bH.out fB.out) dJ) (Rx gl (aO (H.eU s o) (.slice sa sp sc)).toList (i*16) w6) dh);obtain⟨w8,RE⟩:∃w8,w8=w6.setCells gl (i*16) (aO (H.eU s o) (.slice sa sp sc)).toList:=⟨_,rfl⟩;rw[<-RE] at HP fJ;have YG:w8=((((((((((((((((w6.setCell ⟨gl,i*16,none⟩ (.int .i64 s.af)).setCell ⟨gl,i*16+1,none⟩ (.int .i64 s.a)).setCell ⟨gl,i*16+2,none⟩ (.int .i64 s.b)).setCell ⟨gl,i*16+3,none⟩ (.int .i64 s.aP)).setCell ⟨gl,i*16+4,none⟩ (.int .i64 s.bA)).setCell ⟨gl,i*16+5,none⟩ (.int .i64 o.to)).setCell ⟨gl,i*16+6,none⟩ (.int .i64 s.size)).setCell ⟨gl,i*16+7,none⟩ (.int .i64 s.aE)).setCell ⟨gl,i*16+8,none⟩ (.bool s.same)).setCell ⟨gl,i*16+9,none⟩ (.slice sa sp sc)).setCell ⟨gl,i*16+10,none⟩ (.int .i64 (R.cU s.lo o.lo o.hi))).setCell ⟨gl,i*16+11,none⟩ (.int .i64 (R.cU s.hi o.lo o.hi))).setCell ⟨gl,i*16+12,none⟩ (.int .i64 s.aS)).setCell ⟨gl,i*16+13,none⟩ (.int .i64 s.below)).setCell ⟨gl,i*16+14,none⟩ (.int .i64 s.left)).setCell ⟨gl,i*16+15,none⟩ (.int .i64 s.right)):=RE.trans rfl;rw[<-YG];clear RE YG fD dJ c0 e0 c1 e1 c2 e2 c3 e3 c4 e4 c5 e5 c6 e6 c7 e7 c8 e8 c9 e9 c10 e10 c11 e11 c12 e12 c13 e13 c14 e14 c15 e15;go_wp2;go_roundw
     case rel=>exact⟨k+1,by omega,by go_num,by rw[HN.out];have e:=HP.out;simpa using e,fJ.out⟩
     case measure=>simp[intOf];omega
  ·obtain rfl:k=md.ag.length:=by omega
   obtain⟨la,lc,rfl⟩:=kQ.bT;have HJ:=ae (H.XT md);have nG:=HM.out.Z aF;have IZ:=ae (cN.Rl nG (kQ.ag (by omega)));obtain⟨b1,d1,b2,d2,b3,d3,hB,-⟩:=nG;have q1:wr.cell? ⟨m,1,none⟩=some (.slice b2 md.ag.length d2):=hB.cell 1;have f1:=hB.free 1;have mR:=ae (uk (Ai aF (by omega)) (Cf (bD wr m 1 (.slice la (H.pF md md.ag.length).length lc)) (bj m) (by omega)));clear aF kQ hB;generalize H.pF md md.ag.length=L at *;go_wp2;go_end0;exact⟨rfl,by rw[HJ.out];exact IZ.out,mR.out⟩
end Go.Proofs.YtcnhfffgbamonabGreat
