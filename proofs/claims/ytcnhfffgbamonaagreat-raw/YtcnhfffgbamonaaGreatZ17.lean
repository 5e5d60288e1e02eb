import Derived.Test.YtcnhfffgbamonaaGreatZ16
set_option maxRecDepth 100000
set_option maxHeartbeats 6400000
namespace Go.Proofs.YtcnhfffgbamonaaGreat
open Go.Proofs.Tryz
open Go.RowKit
theorem amV(s o:M.Op)(sa ao:Option Addr)(ps cs p c:Nat)(w:World) :
  Calls prog 147 #[.agg (oo s (.slice sa ps cs)),.agg (oo o (.slice ao p c))] w fun e w'=>e=.returned (.agg #[.int .i64 s.af,.int .i64 s.a,.int .i64 s.b,.int .i64 s.aP,.int .i64 s.bC,.int .i64 o.to,.int .i64 s.size,.int .i64 s.aE,.bool s.same,.slice sa ps cs,.int .i64 (R.cW s.lo o.lo o.hi),.int .i64 (R.cW s.hi o.lo o.hi),.int .i64 s.aT,.int .i64 s.below,.int .i64 s.left,.int .i64 s.right])/\w.grownBy w' none:=amO s o sa ao ps cs p c w
theorem amW{w w':World}{b o:Nat}{cs:List Value}(h:w.rangeAt b o cs)(hg:w.grownBy w' none):w'.rangeAt b o cs:=fun j v hv=>aG hg (h j v hv)
theorem ri{w w':World}{a:Addr}{v:Value}{x:Bool}(hg:w.grownBy w' none)(hc:w.cell? a=some v)(hf:w.frozen? a=x):w'.frozen? a=x:=by
 have hb:=hg.block a.block (ql w _ hc) (by simp);rw[<-hf];unfold World.frozen?;simp only[hb]
theorem j4.there{w:World}{B1 B2 g n c i:Nat}{os:List M.Op}(h:j4 w B1 B2 (.slice (some ⟨g,0,none⟩) n c) os)(hi:i<os.length):w.there g (i*16) 16:=fun j hj=>by
 obtain⟨ps,h1,h2,h3⟩:=h;obtain⟨g',dY,e,-,-,hB,h4,h5,h6,h7⟩:=xH h2 (by omega);simp only[kj,oP,and_true] at e;subst e;refine⟨?_,hB.free _⟩;rw[hB.cell,Array.getElem?_eq_getElem (by omega)];rfl
def setAll(xs:List Value)(p:Nat):List Value->List Value
 | []=>xs
 | v::vs=>setAll (xs.set p v) (p+1) vs
theorem Zu:∀(vs xs:List Value) (p:Nat),(setAll xs p vs).length=xs.length
 | [],_,_=>rfl
 | v::vs,xs,p=>by rw[setAll,Zu vs,kK]
theorem Zv:∀(vs xs:List Value) (p j:Nat),(setAll xs p vs)[j]?=if p<=j/\j<p+vs.length/\j<xs.length then vs[j-p]? else xs[j]?
 | [],xs,p,j=>by rw[ak (by simp;omega)];rfl
 | v::vs,xs,p,j=>by
  rw[setAll,Zv vs,kK,ox];by_cases c:p=j
  ·subst c
   rw[ak (by omega),ay rfl];by_cases c2:p<xs.length
   ·rw[ay c2,ay ⟨bj _,by simp,c2⟩,Nat.sub_self];rfl
   ·rw[ak c2,ak (by omega),db (by omega)]
  ·rw[ak c]
   by_cases c2:p+1<=j/\j<p+1+vs.length/\j<xs.length
   ·rw[ay c2,ay ⟨by omega,by simp;omega,c2.2.2⟩]
    rw[show j-p=(j-(p+1))+1 by omega];rfl
   ·rw[ak c2,ak (by simp;omega)]
theorem amX{α:Type}(f:α->List Value)(n:Nat)(hf:∀x,(f x).length=n)(xs:List α)(i:Nat)(y:α)(hi:i<xs.length):setAll (xs.flatMap f) (i*n) (f y)=(xs.set i y).flatMap f:=by
 have hl:∀l:List α,(l.flatMap f).length=l.length*n:=by
  intro l
  induction l with
  | nil=>simp
  | cons a l ih=>rw[List.flatMap_cons,nJ,hf,ih,pN,Nat.add_mul,Nat.one_mul,Nat.add_comm]
 by_cases hn:n=0
 ·subst hn
  rw[List.eq_nil_of_length_eq_zero (show(setAll (xs.flatMap f) (i*0) (f y)).length=0 by rw[Zu,hl];simp),List.eq_nil_of_length_eq_zero (show((xs.set i y).flatMap f).length=0 by rw[hl];simp)]
 ·apply nM
  intro j;rw[Zv,hl,hf];by_cases hj:j<xs.length*n
  ·have hd:j/n<xs.length:=by rw[Nat.div_lt_iff_lt_mul (by omega)];exact hj
   have hm:j%n<n:=abc _ (by omega);have he:j/n*n+j%n=j:=by rw[Nat.mul_comm];exact Nat.div_add_mod j n
   obtain⟨z,hz⟩:∃z,(xs.set i y)[j/n]?=some z:=⟨_,aS (by rw[kK];exact hd)⟩;have e1:=lP f n hf (xs.set i y) (j/n) (j%n) z hz hm;rw[he] at e1;rw[e1];by_cases c:i=j/n
   ·have c1:i*n<=j/\j<i*n+n/\j<xs.length*n:=by rw[c];omega
    rw[ay c1];rw[<-c,ox,ay rfl,ay hi] at hz;injection hz with hz;rw[<-hz]
    congr 1
    rw[c];omega
   ·rw[ak]
    ·rw[ox,ak c] at hz
     have e2:=lP f n hf xs (j/n) (j%n) z hz hm;rw[he] at e2;rw[e2]
    ·rintro ⟨h1,h2,-⟩
     apply c
     have h3:i<=j/n:=(Nat.le_div_iff_mul_le (by omega)).mpr h1;have h4:j/n<i+1:=by rw[Nat.div_lt_iff_lt_mul (by omega),Nat.add_mul,Nat.one_mul];exact h2
     omega
  ·rw[ak (by omega),db (by rw[hl];omega),db (by rw[hl,kK];omega)]
theorem Zw{base:Nat}{e:TypeId}{size n g c m:Nat}:∀(vs:List Value) (p:Nat) (w:World) (xs:List Value),w.ownsRow base e size (.slice (some ⟨g,0,none⟩) m c) n xs->(w.setCells g p vs).ownsRow base e size (.slice (some ⟨g,0,none⟩) m c) n (setAll xs p vs)
 | [],_,_,_,h=>h
 | v::vs,p,_,_,h=>Zw vs (p+1) _ _ (Eg h p v)
theorem Sa(g:Nat):∀(vs:List Value) (p:Nat) (w:World),w.grownBy (w.setCells g p vs) (some g)
 | [],_,_=>fZ _ _
 | v::vs,p,w=>aC (bD w g p v) (Sa g vs (p+1) _)
theorem j4.bN{w:World}{B1 B2 g n c i:Nat}{os:List M.Op}{o:M.Op}(h:j4 w B1 B2 (.slice (some ⟨g,0,none⟩) n c) os)(hi:os[i]?=some o) :
  ∃sa sp sc,B1<=g/\w.rangeAt g (i*16) (aO o (.slice sa sp sc)).toList/\w.there g (i*16) 16/\∀(o':M.Op) w',o'.bM=o.bM->w.grownBy w' none->j4 (w'.setCells g (i*16) (aO o' (.slice sa sp sc)).toList) B1 B2 (.slice (some ⟨g,0,none⟩) n c) (os.set i o'):=by
 have fq:=M.bP hi;have pc:=h.there fq;obtain⟨ps,h1,h2,h3⟩:=h;obtain⟨g',dY,e,hmn,hbg,hB,-⟩:=xH h2 (by omega);simp only[kj,oP,and_true] at e;subst e;subst h1;rw[dV] at hi;obtain⟨p,hp,rfl⟩:=Option.map_eq_some_iff.1 hi;obtain⟨sa,sp,sc,qj⟩:=(h3 p (bU hp)).bT;obtain⟨g2,e2,-,-,hc⟩:=nE h2 (by omega);simp only[kj,oP,and_true] at e2;subst e2;refine⟨sa,sp,sc,hbg,fun j v hv=>?_,pc,fun o' w' ho hg=>?_⟩
 ·rw[<-qj] at hv
  have hj:j<16:=by have:=(List.getElem?_eq_some_iff.1 hv).1;simpa[aO] using this
  rw[hc _ (by simp at fq ⊢;omega),lP (fun p:M.Op×Value=>(aO p.1 p.2).toList) 16 (fun a=>rfl) ps i j p hp hj,hv]
 ·have h4:=Zw (aO o' (.slice sa sp sc)).toList (i*16) w' _ (eY h2 hg)
  have JJ:i<ps.length:=by simpa using fq
  have e3:=amX (fun p:M.Op×Value=>(aO p.1 p.2).toList) 16 (fun a=>rfl) ps i (o',.slice sa sp sc) JJ;have qZ:=hB.kept hg (by simp);refine⟨ps.set i (o',.slice sa sp sc),by rw[List.map_set],?_,fun q hq=>?_⟩
  ·rw[e3] at h4
   simpa using h4
  ·have ap:∀v l,gF w B2 v l->gF (w'.setCells g (i*16) (aO o' (.slice sa sp sc)).toList) B2 v l:=fun v l hI=>pL (eY hI hg) qZ (by decide) (Sa _ _ _ _)
   rcases Yw hq with hq|rfl
   ·exact ap _ _ (h3 q hq)
   ·have:=h3 p (bU hp)
    rw[qj,<-ho] at this;exact ap _ _ this
theorem am0{m:M.Md}{k:Nat}{o:M.Op}(h:m.ag[k]?=some o)(hh:H.oy m (H.pO m k) o=none):H.pO m (k+1)=H.pO m k++[o]:=by
 rw[H.RR h];unfold H.joinStep;rw[hh]
theorem am1{m:M.Md}{k i:Nat}{o s:M.Op}(h:m.ag[k]?=some o)(hh:H.oy m (H.pO m k) o=some i)(hs:(H.pO m k)[i]?=some s):H.pO m (k+1)=(H.pO m k).set i (H.eV s o):=by
 rw[H.RR h];unfold H.joinStep;rw[hh]
 apply nM
 intro j;rw[List.getElem?_modify,ox];by_cases c:i=j
 ·subst c
  rw[hs,ay rfl,ay (M.bP hs)];simp
 ·rw[ak c]
  cases (H.pO m k)[j]?<;>simp[c]
theorem am2(m:Nat)(md:M.Md)(w:World)(h:cN w m md)(iq:md.ag.length<=255)(kl:md.aK.length<=255) :
  Calls prog 103 #[.pointer (some ⟨m,0,none⟩)] w fun e w'=>e=.returned (.tuple #[])/\cN w' m (H.oY md)/\Below m w w':=by
 obtain⟨i0,hi,cP,cQ,cZ⟩:=info_parts Tryz.L4;have Ae:=ae cP;clear cP;have HM:=ae h;obtain⟨a1,c1,a2,c2,a3,c3,hB,hT,hO,hU⟩:=h;have q1:w.cell? ⟨m,1,none⟩=some (.slice a2 md.ag.length c2):=hB.cell 1;have qk:=hB.lt;have HO:=ae hO;clear hB hT hO hU;go_enter func103,ntmps103;go_wp2;clear q1;go_loopw[2,11] (fun v i wr=>∃k:Nat,k<=md.ag.length/\i=.int .i64 k/\j4 wr w.heap.size (m+1) v (H.pO md k)/\w.grownBy wr none) (fun _ i _=>md.ag.length-(intOf i).toNat)
 case atStart=>exact⟨0,bK _,rfl,j4.nil _ _ _,fZ _ _⟩
 case round=>
  obtain⟨k,hk,rfl,kT,aF⟩:=hrel;have vU:=H.RT md k hk;have Ft:=aF.size;by_cases aJ:k<md.ag.length
  ·obtain⟨o,ho⟩:∃o,md.ag[k]?=some o:=⟨_,aS aJ⟩
   obtain⟨g,ao,p,cp,rfl,gQ,-,tr,hR⟩:=(HO.out.Z aF).get k o ho;obtain⟨la,lc,rfl⟩:=kT.bT;have JK:=ae (fun hh=>am0 ho hh);have Cw:=ae (fun i hh s hs=>am1 (i:=i) (s:=s) ho hh hs);have Eh:=ae kT;have bH:=ae aF;clear kT aF ho;obtain⟨L,HL⟩:∃L,Hid (H.pO md k=L):=⟨_,rfl⟩;rw[HL.out] at Eh vU JK Cw ⊢;have lC:=ae (aj.bA wr 142 (aO o (.slice ao p cp)));have dN:=ae (aQ wr (.cells (aO o (.slice ao p cp)) 142) none);have AM:=ae tr;have HC:=ae (amS m md (m+1) la L.length lc L o ao p cp _ (HM.out.Z (aC bH.out dN.out)) ((Eh.out.Z dN.out).ag (by omega)) iq kl (by omega));clear tr;go_wp2_with (first|(refine wpList_load_mid rfl 142 _ rfl g (k*16) rfl (aO o (.slice ao p cp)).toList _ hR underlying142 rfl Tryz.de ?_)|(refine aaY rfl 142 _ _ rfl wr.heap.size (aO o (.slice ao p cp)) rfl rfl 142 (aR 0 0 0 0 0 0 0 0 false (.slice none 0 0) 0 0 0 0 0 0) (aj.bA wr 142 _) Tryz.de rfl (oe ..) ?_;rw[World.setRow_alloc_new];generalize wr.alloc (.cells (aO o (.slice ao p cp)) 142)=w3 at *)|(refine dj rfl 142 _ rfl wr.heap.size rfl 142 (aO o (.slice ao p cp)) (0,0) _ lC.out underlying142 rfl Tryz.de ?_));refine HC.out.mono ?_;rintro e w4⟨rfl,bm⟩;have fC:=ae (aC dN.out bm);have iS:=ae (lC.out.kept bm (by simp));have pb:=ae (Eh.out.Z fC.out);have Ec:=fC.out.size;clear bm hR lC dN HC
   cases hh:H.oy md L o with
   | none=>
    have HN:=ae (JK.out hh);obtain⟨ps,q1,q2,q3⟩:=pb.out;have e0:R6 none = -1:=rfl;rw[e0];clear hh e0;go_wp2_with (first|(refine dj rfl 142 _ rfl wr.heap.size rfl 142 #[.int .i64 o.af,.int .i64 o.a,.int .i64 o.b,.int .i64 o.aP,.int .i64 o.bC,.int .i64 o.to,.int .i64 o.size,.int .i64 o.aE,.bool o.same,.slice ao p cp,.int .i64 o.lo,.int .i64 o.hi,.int .i64 o.aT,.int .i64 o.below,.int .i64 o.left,.int .i64 o.right] (0,0) _ iS.out underlying142 rfl Tryz.de ?_)|(at_builtin;refine nD _ rfl _ _ 137 rfl w.heap.size 142 i0 (.agg (aR 0 0 0 0 0 0 0 0 false (.slice none 0 0) 0 0 0 0 0 0)) 16 144 underlying137 hi Ae.out cQ cZ rfl (by decide) _ _ _ rfl (q2.alloc _) ⟨w4.heap.size,0,none⟩ 1 1 (aO o (.slice ao p cp)).toList rfl rfl ?c1 ?c2 ?c3 ?c4 ?c5 ?_))
    case c1=>exact kb w4 142 (aO o (.slice ao p cp))
    case c2=>intro u hu;simp[aO] at hu;rcases hu with rfl|rfl|rfl|rfl|rfl|rfl|rfl|rfl|rfl|rfl|rfl|rfl|rfl|rfl|rfl|rfl<;>rfl
    case c3=>unfold maxLen;omega
    case c4=>omega
    case c5=>simp;omega
    intro v' w5 dC cR _;have bq:=aC (aQ w4 _ _) cR;have BK:=j4.py q1 q2 q3 (eY AM.out fC.out) bq dC;have Ei:=mJ q2;have iC:Hid (w.grownBy w5 none):=l8 (aC bH.out fC.out) bq Ei;have Jv:=ae BK;clear dC cR bq q2 q3 BK Ei;go_wp2;go_roundw
    case rel=>exact⟨k+1,by omega,by go_num,by rw[HN.out];exact Jv.out,iC.out⟩
    case measure=>simp[intOf];omega
   | some i=>
    obtain⟨-,-,s,hs,-,-⟩:=H.Rn hh;have fq:=M.bP hs;have HN:=ae (Cw.out i hh s hs);have e0:R6 (some i)=(i:Int):=rfl;rw[e0];obtain⟨gl,dY,rfl,-⟩:=(show ∃gl dY,la=some ⟨gl,0,none⟩/\aj w4 gl 142 dY by
     obtain⟨ps,q1,q2,q3⟩:=pb.out;obtain⟨gl,dY,e,-,-,hB,-⟩:=xH q2 (by omega);exact⟨gl,dY,e,hB⟩)
    obtain⟨sa,sp,sc,dh,gJ,pc,Zx⟩:=pb.out.bN hs;have am3:=ae Zx;clear hh e0 hs Zx;have a0:w4.cell? ⟨gl,i*16,none⟩=some (.int .i64 s.af):=gJ 0 _ rfl;have a1:w4.cell? ⟨gl,i*16+1,none⟩=some (.int .i64 s.a):=gJ 1 _ rfl;have a2:w4.cell? ⟨gl,i*16+2,none⟩=some (.int .i64 s.b):=gJ 2 _ rfl;have a3:w4.cell? ⟨gl,i*16+3,none⟩=some (.int .i64 s.aP):=gJ 3 _ rfl;have a4:w4.cell? ⟨gl,i*16+4,none⟩=some (.int .i64 s.bC):=gJ 4 _ rfl;have a5:w4.cell? ⟨gl,i*16+5,none⟩=some (.int .i64 s.to):=gJ 5 _ rfl;have a6:w4.cell? ⟨gl,i*16+6,none⟩=some (.int .i64 s.size):=gJ 6 _ rfl;have a7:w4.cell? ⟨gl,i*16+7,none⟩=some (.int .i64 s.aE):=gJ 7 _ rfl;have a8:w4.cell? ⟨gl,i*16+8,none⟩=some (.bool s.same):=gJ 8 _ rfl;have a9:w4.cell? ⟨gl,i*16+9,none⟩=some (.slice sa sp sc):=gJ 9 _ rfl;have Sb:w4.cell? ⟨gl,i*16+10,none⟩=some (.int .i64 s.lo):=gJ 10 _ rfl;have Sd:w4.cell? ⟨gl,i*16+11,none⟩=some (.int .i64 s.hi):=gJ 11 _ rfl;have Se:w4.cell? ⟨gl,i*16+12,none⟩=some (.int .i64 s.aT):=gJ 12 _ rfl;have Sf:w4.cell? ⟨gl,i*16+13,none⟩=some (.int .i64 s.below):=gJ 13 _ rfl;have Sg:w4.cell? ⟨gl,i*16+14,none⟩=some (.int .i64 s.left):=gJ 14 _ rfl;have Sh:w4.cell? ⟨gl,i*16+15,none⟩=some (.int .i64 s.right):=gJ 15 _ rfl;obtain⟨b0,b1,b2,b3,b4,b5,b6,b7,b8,b9,b10,b11,tD,b13,b14,b15⟩:=dS (show aj w4 wr.heap.size 142 (oo o (.slice ao p cp)) from iS.out);have f0:w4.frozen? ⟨gl,i*16,none⟩=false:=(pc 0 (by decide)).2;have f1:w4.frozen? ⟨gl,i*16+1,none⟩=false:=(pc 1 (by decide)).2;have f2:w4.frozen? ⟨gl,i*16+2,none⟩=false:=(pc 2 (by decide)).2;have f3:w4.frozen? ⟨gl,i*16+3,none⟩=false:=(pc 3 (by decide)).2;have f4:w4.frozen? ⟨gl,i*16+4,none⟩=false:=(pc 4 (by decide)).2;have f5:w4.frozen? ⟨gl,i*16+5,none⟩=false:=(pc 5 (by decide)).2;have f6:w4.frozen? ⟨gl,i*16+6,none⟩=false:=(pc 6 (by decide)).2
    have f7:w4.frozen? ⟨gl,i*16+7,none⟩=false:=(pc 7 (by decide)).2;have f8:w4.frozen? ⟨gl,i*16+8,none⟩=false:=(pc 8 (by decide)).2;have f9:w4.frozen? ⟨gl,i*16+9,none⟩=false:=(pc 9 (by decide)).2;have FP:w4.frozen? ⟨gl,i*16+10,none⟩=false:=(pc 10 (by decide)).2;have Em:w4.frozen? ⟨gl,i*16+11,none⟩=false:=(pc 11 (by decide)).2;have Zy:w4.frozen? ⟨gl,i*16+12,none⟩=false:=(pc 12 (by decide)).2;have Zz:w4.frozen? ⟨gl,i*16+13,none⟩=false:=(pc 13 (by decide)).2;have ZA:w4.frozen? ⟨gl,i*16+14,none⟩=false:=(pc 14 (by decide)).2;have f15:w4.frozen? ⟨gl,i*16+15,none⟩=false:=(pc 15 (by decide)).2;clear gJ pc;go_wp2
    go_region_with (go_at_call 147;refine(amV s o sa ao sp sc p cp _).mono ?_;rintro e w6⟨rfl,fE⟩;have dJ:=aC (gE w4 none) fE;have c0:=aG dJ a0;have c1:=aG dJ a1;have c2:=aG dJ a2;have c3:=aG dJ a3;have c4:=aG dJ a4;have c5:=aG dJ a5;have c6:=aG dJ a6;have c7:=aG dJ a7;have c8:=aG dJ a8;have c9:=aG dJ a9;have c10:=aG dJ Sb;have c11:=aG dJ Sd;have c12:=aG dJ Se;have c13:=aG dJ Sf;have c14:=aG dJ Sg;have c15:=aG dJ Sh;have e0:=ri dJ a0 f0;have e1:=ri dJ a1 f1;have e2:=ri dJ a2 f2;have e3:=ri dJ a3 f3;have e4:=ri dJ a4 f4;have e5:=ri dJ a5 f5;have e6:=ri dJ a6 f6;have e7:=ri dJ a7 f7;have e8:=ri dJ a8 f8;have e9:=ri dJ a9 f9;have e10:=ri dJ Sb FP;have e11:=ri dJ Sd Em;have e12:=ri dJ Se Zy;have e13:=ri dJ Sf Zz;have e14:=ri dJ Sg ZA;have e15:=ri dJ Sh f15;clear a0 a1 a2 a3 a4 a5 a6 a7 a8 a9 Sb Sd Se Sf Sg Sh f0 f1 f2 f3 f4 f5 f6 f7 f8 f9 FP Em Zy Zz ZA f15 b0 b1 b2 b3 b4 b5 b6 b7 b8 b9 b10 b11 tD b13 b14 b15)
    all_goals
     have HP:=ae (am3.out (H.eV s o) w6 rfl dJ);have fD:=ae (dF (aC (aC bH.out fC.out) dJ) (Sa gl (aO (H.eV s o) (.slice sa sp sc)).toList (i*16) w6) dh);obtain⟨w8,Si⟩:∃w8,w8=w6.setCells gl (i*16) (aO (H.eV s o) (.slice sa sp sc)).toList:=⟨_,rfl⟩;rw[<-Si] at HP fD;have ZB:w8=((((((((((((((((w6.setCell ⟨gl,i*16,none⟩ (.int .i64 s.af)).setCell ⟨gl,i*16+1,none⟩ (.int .i64 s.a)).setCell ⟨gl,i*16+2,none⟩ (.int .i64 s.b)).setCell ⟨gl,i*16+3,none⟩ (.int .i64 s.aP)).setCell ⟨gl,i*16+4,none⟩ (.int .i64 s.bC)).setCell ⟨gl,i*16+5,none⟩ (.int .i64 o.to)).setCell ⟨gl,i*16+6,none⟩ (.int .i64 s.size)).setCell ⟨gl,i*16+7,none⟩ (.int .i64 s.aE)).setCell ⟨gl,i*16+8,none⟩ (.bool s.same)).setCell ⟨gl,i*16+9,none⟩ (.slice sa sp sc)).setCell ⟨gl,i*16+10,none⟩ (.int .i64 (R.cW s.lo o.lo o.hi))).setCell ⟨gl,i*16+11,none⟩ (.int .i64 (R.cW s.hi o.lo o.hi))).setCell ⟨gl,i*16+12,none⟩ (.int .i64 s.aT)).setCell ⟨gl,i*16+13,none⟩ (.int .i64 s.below)).setCell ⟨gl,i*16+14,none⟩ (.int .i64 s.left)).setCell ⟨gl,i*16+15,none⟩ (.int .i64 s.right)):=Si.trans rfl;rw[<-ZB];clear Si ZB fE dJ c0 e0 c1 e1 c2 e2 c3 e3 c4 e4 c5 e5 c6 e6 c7 e7 c8 e8 c9 e9 c10 e10 c11 e11 c12 e12 c13 e13 c14 e14 c15 e15;go_wp2;go_roundw
     case rel=>exact⟨k+1,by omega,by go_num,by rw[HN.out];have e:=HP.out;simpa using e,fD.out⟩
     case measure=>simp[intOf];omega
  ·obtain rfl:k=md.ag.length:=by omega
   obtain⟨la,lc,rfl⟩:=kT.bT;have HJ:=ae (H.YK md);have nN:=HM.out.Z aF;have JD:=ae (cN.RU nN (kT.ag (by omega)));obtain⟨b1,d1,b2,d2,b3,d3,hB,-⟩:=nN;have q1:wr.cell? ⟨m,1,none⟩=some (.slice b2 md.ag.length d2):=hB.cell 1;have f1:=hB.free 1;have mV:=ae (uD (AB aF (by omega)) (Cu (bD wr m 1 (.slice la (H.pO md md.ag.length).length lc)) (bj m) (by omega)));clear aF kT hB;generalize H.pO md md.ag.length=L at *;go_wp2;go_end0;exact⟨rfl,by rw[HJ.out];exact JD.out,mV.out⟩
end Go.Proofs.YtcnhfffgbamonaaGreat
