import Derived.Deep.MidRow
import Derived.Deep.WholeRow
import Derived.Deep.RegionWith
import Derived.Test.YtcnhfffgbamonaaGreatZ05
set_option maxRecDepth 100000
set_option maxHeartbeats 6400000
namespace Go.Proofs.YtcnhfffgbamonaaGreat
open Go.Proofs.Tryz
open Go.RowKit
theorem jl.get{w:World}{base:Nat}{a:Option Addr}{n c:Nat}{os:List M.Op}(h:jl w base (.slice a n c) os)(i:Nat)(o:M.Op)(hi:os[i]?=some o) :
  ∃g ao m cp,a=some ⟨g,0,none⟩/\g<w.heap.size/\base<=g/\gF w base (.slice ao m cp) o.bM/\w.rangeAt g (i*16) (aO o (.slice ao m cp)).toList:=by
 obtain⟨ps,h1,h2,h3⟩:=h;have aJ:i<os.length:=by
  rcases cE i os.length with h' | h'
  ·exact h'
  ·simp[db h'] at hi
 obtain⟨g,ha,hb,hn,hc⟩:=nE h2 (by omega);subst h1;rw[dV] at hi;obtain⟨p,hp,rfl⟩:=Option.map_eq_some_iff.1 hi;obtain⟨ao,m,cp,qj⟩:=(h3 p (bU hp)).bT;have hI:=h3 p (bU hp);rw[qj] at hI;have cF:∀j,j<16->w.cell? ⟨g,i*16+j,none⟩=(aO p.1 p.2).toList[j]?:=by
  intro j hj;rw[hc _ (by simp at aJ ⊢;omega)];exact lP (fun p:M.Op×Value=>(aO p.1 p.2).toList) 16 (fun a=>rfl) ps i j p hp hj
 have k0:w.cell? ⟨g,i*16+0,none⟩=some (.int .i64 p.1.af):=cF 0 (by omega);refine⟨g,ao,m,cp,ha,ql w _ k0,hb,hI,?_⟩;intro j v hv;have hj:j<16:=by
  rcases cE j 16 with h' | h'
  ·exact h'
  ·rw[db (by simpa[aO] using h')] at hv;simp at hv
 rw[cF j hj,qj];exact hv
theorem aZ.get{w:World}{base:Nat}{a:Option Addr}{n c:Nat}{xs:List Int}(h:aZ w base (.slice a n c) xs)(i:Nat)(x:Int)(hi:xs[i]?=some x) :
  ∃g,a=some ⟨g,0,none⟩/\g<w.heap.size/\base<=g/\w.cell? ⟨g,i,none⟩=some (.int .i64 x):=by
 have aJ:i<xs.length:=by
  rcases cE i xs.length with h' | h'
  ·exact h'
  ·simp[db h'] at hi
 obtain⟨g,ha,hb,hn,hc⟩:=nE h (by omega);have k:w.cell? ⟨g,i,none⟩=some (.int .i64 x):=by
  rw[hc i (by omega),dV,hi];rfl
 exact⟨g,ha,ql w _ k,hb,k⟩
theorem aZ.len{w:World}{base:Nat}{a:Option Addr}{n c:Nat}{xs:List Int}(h:aZ w base (.slice a n c) xs):n=xs.length:=by
 obtain⟨ao,c',e⟩:=gP h;injection e
theorem aiF{md:M.Md}{by_:List Int}{i n:Int}(h:M.lZ md n=false):M.ny md by_ i n=false:=by simp[M.ny,h]
theorem aiG{md:M.Md}{by_:List Int}{i n:Int}(h:(by_.length:Int)<=n):M.ny md by_ i n=false:=by
 unfold M.ny;rw[show decide (n<(by_.length:Int))=false from by simp;omega];simp
theorem aiH{md:M.Md}{by_:List Int}{i:Int}{k:Nat}{x:Int}(h:M.lZ md k=true)(hx:by_[k]?=some x):M.ny md by_ i k=decide (x<i):=by
 have hk:k<by_.length:=by
  rcases cE k by_.length with h' | h'
  ·exact h'
  ·simp[db h'] at hx
 unfold M.ny;rw[h,eC,oa,hx];simp[hk]
theorem QB(m B:Nat)(md:M.Md)(a:Option Addr)(nb cb:Nat)(by_:List Int)(i n:Int)(w:World)(h:cN w m md)(hw:md.au.length<=255)(hI:aZ w B (.slice a nb cb) by_)(_hl:by_.length<=255) :
  Calls prog 187 #[.pointer (some ⟨m,0,none⟩),.slice a nb cb,.int .i64 i,.int .i64 n] w fun e w'=>e=.returned (.bool (M.ny md by_ i n))/\w'=w:=by
 have hn:=hI.len;subst hn
 cases hc:M.lZ md n with
 | false=>
  have He:=ae (aiF (by_:=by_) (i:=i) hc);go_enter func187,ntmps187;go_wp2_with fail;refine(L6 m md n w h hw).mono ?_;rintro e w1⟨rfl,rfl⟩;rw[hc];clear hc;go_wp2;go_ret;exact⟨bB He.out.symm,rfl⟩
 | true=>
  have h0:0<=n:=by
   rcases(show n<0\/0<=n from by omega) with h' | h'
   ·rw[Qx (.inl h')] at hc;simp at hc
   ·exact h'
  obtain⟨k,rfl⟩:=fT h0;have Hc:=ae hc;clear hc;by_cases hk:k<by_.length
  ·obtain⟨x,hx⟩:∃x,by_[k]?=some x:=⟨_,aS hk⟩
   obtain⟨g,rfl,gQ,-,d0⟩:=hI.get k x hx;have He:=ae (aiH (i:=i) Hc.out hx);clear hI hx;go_enter func187,ntmps187;go_wp2_with fail;refine(L6 m md k w h hw).mono ?_;rintro e w1⟨rfl,rfl⟩;rw[Hc.out];go_wp2;go_ret;exact⟨bB He.out.symm,rfl⟩
  ·have He:=ae (aiG (md:=md) (by_:=by_) (i:=i) (n:=k) (by omega))
   clear hI;go_enter func187,ntmps187;go_wp2_with fail;refine(L6 m md k w h hw).mono ?_;rintro e w1⟨rfl,rfl⟩;rw[Hc.out];go_wp2;go_ret;exact⟨bB He.out.symm,rfl⟩
theorem aiI{md:M.Md}{by_:List Int}{i:Int}{o:M.Op}(h:M.ny md by_ i o.a=false):M.lI md by_ i o=false:=by simp[M.lI,h]
theorem aiJ{md:M.Md}{by_:List Int}{i:Int}{o:M.Op}(h:M.ny md by_ i o.a=true)(h2:M.dr o.af=true):M.lI md by_ i o=M.ny md by_ i o.b:=by simp[M.lI,h,h2]
theorem aiK{md:M.Md}{by_:List Int}{i:Int}{o:M.Op}(h:M.ny md by_ i o.a=true)(h2:M.dr o.af=false)(h3:M.cm o.af=false):M.lI md by_ i o=true:=by simp[M.lI,h,h2,h3]
theorem aiL{md:M.Md}{by_:List Int}{i:Int}{o:M.Op}(h:M.ny md by_ i o.a=true)(h2:M.dr o.af=false)(h3:M.cm o.af=true):M.lI md by_ i o=(M.jM md o.aP 1&&M.jM md o.bC 2):=by simp[M.lI,h,h2,h3]
theorem yI(o:M.Op)(sv:Value)(x:Bool)(w:World)(hx:M.cm o.af=x):Calls prog 148 #[.agg (aO o sv)] w fun e w'=>e=.returned (.bool x)/\w.grownBy w' none:=rI o.af _ _ _ _ _ _ _ _ _ _ _ _ _ _ _ x w hx
theorem BO(o:M.Op)(sv:Value)(x:Bool)(w:World)(hx:M.dr o.af=x):Calls prog 149 #[.agg (aO o sv)] w fun e w'=>e=.returned (.bool x)/\w.grownBy w' none:=L3 o.af _ _ _ _ _ _ _ _ _ _ _ _ _ _ _ x w hx
theorem aiM(m B:Nat)(md:M.Md)(a:Option Addr)(nb cb:Nat)(by_:List Int)(i:Int)(o:M.Op)(ao:Option Addr)(p c:Nat)(w:World)(h:cN w m md)(hw:md.au.length<=255)(hI:aZ w B (.slice a nb cb) by_)(hl:by_.length<=255) :
  Calls prog 166 #[.pointer (some ⟨m,0,none⟩),.slice a nb cb,.int .i64 i,.agg (aO o (.slice ao p c))] w fun e w'=>e=.returned (.bool (M.lI md by_ i o))/\w.grownBy w' none:=by
 have aH:w.grownBy (w.alloc (.cells (aO o (.slice ao p c)) 142)) none:=aQ _ _ _;have km:aj (w.alloc (.cells (aO o (.slice ao p c)) 142)) w.heap.size 142 (aO o (.slice ao p c)):=aj.bA w 142 _;have mK:=h.Z aH;have lQ:=hI.Z aH;have nF:=ae km;have v1:(aO o (.slice ao p c))[1]?=some (.int .i64 o.a):=rfl;clear h hI km
 cases ha:M.ny md by_ i o.a with
 | false=>
  have He:=ae (aiI ha);have Ha:=ae ha;clear ha;go_enter func166,ntmps166;go_wp2_with fail;refine(QB m B md a nb cb by_ i o.a _ mK hw lQ hl).mono ?_;rintro e w2⟨rfl,rfl⟩;rw[Ha.out];go_wp2;go_ret;exact⟨bB He.out.symm,aH⟩
 | true=>
  have Ha:=ae ha;clear ha;go_enter func166,ntmps166;go_wp2_with fail;refine(QB m B md a nb cb by_ i o.a _ mK hw lQ hl).mono ?_;rintro e w2⟨rfl,QC⟩;rw[Ha.out,QC];clear QC;go_wp2_with (refine dj rfl 142 _ rfl w.heap.size rfl 142 (aO o (.slice ao p c)) (0,0) _ nF.out underlying142 rfl Tryz.de ?_)
  cases h2:M.dr o.af with
  | true=>
   refine(BO o (.slice ao p c) true _ h2).mono ?_;rintro e w3⟨rfl,aU⟩;have He:=ae (aiJ Ha.out h2);have iA:=nF.out.kept aU (by simp);have e2:w3.cell? ⟨w.heap.size,2,none⟩=some (.int .i64 o.b):=iA.cell 2;have vD:=mK.Z aU;have lh:=lQ.Z aU;have jC:=aC aH aU;clear h2 iA aU mK lQ aH v1;go_wp2_with fail;refine(QB m B md a nb cb by_ i o.b _ vD hw lh hl).mono ?_;rintro e w4⟨rfl,Mg⟩;rw[Mg];clear Mg;go_wp2;go_ret;exact⟨bB He.out.symm,jC⟩
  | false=>
   refine(BO o (.slice ao p c) false _ h2).mono ?_;rintro e w3⟨rfl,aU⟩;have H2:=ae h2;have iA:=nF.out.kept aU (by simp);have vD:=mK.Z aU;have jC:=aC aH aU;have fU:=ae iA;clear h2 iA aU mK lQ aH v1;go_wp2_with (refine dj rfl 142 _ rfl w.heap.size rfl 142 (aO o (.slice ao p c)) (0,0) _ fU.out underlying142 rfl Tryz.de ?_)
   cases h3:M.cm o.af with
   | false=>
    refine(yI o (.slice ao p c) false _ h3).mono ?_;rintro e w4⟨rfl,bm⟩;have He:=ae (aiK Ha.out H2.out h3);have sS:=aC jC bm;clear h3 bm jC vD;go_wp2;go_ret;exact⟨bB He.out.symm,sS⟩
   | true=>
    refine(yI o (.slice ao p c) true _ h3).mono ?_;rintro e w4⟨rfl,bm⟩;have He:=ae (aiL Ha.out H2.out h3);have sS:=aC jC bm;have kC:=fU.out.kept bm (by simp);have Iz:=vD.Z bm;have e3:w4.cell? ⟨w.heap.size,3,none⟩=some (.int .i64 o.aP):=kC.cell 3;have e4:w4.cell? ⟨w.heap.size,4,none⟩=some (.int .i64 o.bC):=kC.cell 4;clear h3 bm jC vD kC;go_wp2_with fail;refine(Iw m md o.aP 1 _ Iz hw).mono ?_;rintro e w5⟨rfl,oh⟩;rw[oh];clear oh
    cases h5:M.jM md o.aP 1 with
    | false=>
     have H5:=ae h5;clear h5;go_wp2;go_ret;exact⟨bB (by rw[He.out,H5.out];rfl),sS⟩
    | true=>
     have H5:=ae h5;clear h5;go_wp2_with fail;refine(Iw m md o.bC 2 _ Iz hw).mono ?_;rintro e w6⟨rfl,WU⟩;rw[WU];clear WU;go_wp2;go_ret;exact⟨bB (by rw[He.out,H5.out];rfl),sS⟩
theorem aiN{md:M.Md}{k:Nat}{by_:List Int}{o:M.Op}(h:M.makersTo md k=some by_)(ho:md.ag[k]?=some o)(hk:M.jM md o.to 3=false):M.makersTo md (k+1)=none:=by
 simp[M.makersTo,h,ho,hk]
theorem aiO{md:M.Md}{k:Nat}{by_:List Int}{o:M.Op}(h:M.makersTo md k=some by_)(ho:md.ag[k]?=some o)(hk:0<=by_.getD o.to.toNat 0):M.makersTo md (k+1)=none:=by
 simp only[M.makersTo,h,ho];rw[ay];rw[eG hk,Bool.or_true]
theorem aiP{md:M.Md}{k:Nat}{by_:List Int}{o:M.Op}(h:M.makersTo md k=some by_)(ho:md.ag[k]?=some o)(hk:M.jM md o.to 3=true)(h2:by_.getD o.to.toNat 0<0):M.makersTo md (k+1)=some (by_.set o.to.toNat k):=by
 simp only[M.makersTo,h,ho];rw[ak];rw[hk,eE (by omega)];simp
theorem aiQ{md:M.Md}{k:Nat}(h:M.makersTo md k=none)(j:Nat):M.makersTo md (k+j)=none:=by
 induction j with
 | zero=>exact h
 | succ j ih=>rw[<-Nat.add_assoc,M.makersTo,ih]
theorem WV{md:M.Md}{k:Nat}(hk:k+1<=md.ag.length)(h:M.makersTo md (k+1)=none):M.mF md=none:=by
 obtain⟨j,hj⟩:=Nat.exists_eq_add_of_le hk;have e:=aiQ h j;rw[<-hj] at e;simp[M.mF,e]
theorem aiR{md:M.Md}{n q:Int}(h:M.jM md n q=true):∃k:Nat,n=k/\k<md.au.length:=by
 rcases(show n<0\/0<=n from by omega) with h' | h'
 ·rw[L5 (.inl h')] at h;simp at h
 ·obtain⟨k,rfl⟩:=fT h'
  refine⟨k,rfl,?_⟩;rcases cE k md.au.length with h2|h2
  ·exact h2
  ·rw[L5 (.inr (by omega))] at h;simp at h
def vE(n k:Nat):Array Value:=((List.replicate k (-1:Int)++List.replicate (n-k) 0).map (Value.int .i64)).toArray
theorem aiS(n k:Nat)(h:k<n):(vE n k).setIfInBounds k (.int .i64 (-1))=vE n (k+1):=by
 have e:n-k=(n-(k+1))+1:=by omega
 unfold vE;rw[e,List.replicate_succ]
 apply Array.toList_inj.1
 rw[Array.toList_setIfInBounds];simp only[lK,List.map_cons];rw[List.set_append_right _ _ (by simp)];simp[List.replicate_succ']
theorem aiT(n k j:Nat)(h:k<=n)(hj:j<n):∃x,(vE n k)[j]?=some (.int .i64 x):=by
 have hz:(vE n k).size=n:=by simp[vE];omega
 rw[Array.getElem?_eq_getElem (by omega)];unfold vE;rw[List.getElem_toArray,List.getElem_map];exact⟨_,rfl⟩
theorem aiU(l:List Int)(k:Nat)(x:Int):((l.map (Value.int .i64)).toArray).setIfInBounds k (.int .i64 x)=((l.set k x).map (Value.int .i64)).toArray:=by
 apply Array.toList_inj.1
 rw[Array.toList_setIfInBounds];simp[List.map_set]
theorem QD{l:List Int}{k:Nat}{x:Int}(h:l[k]?=some x):((l.map (Value.int .i64)).toArray)[k]?=some (.int .i64 x):=by simp[h]
def Mh(ts:List M.Tn)(by_:List Int)(k:Nat):Prop:=∀j,j<k->((ts.map (·.af)).getD j 0==3&&decide (by_.getD j 0<0))=false
theorem aiV{ts:List M.Tn}{by_:List Int}(h:Mh ts by_ ts.length):M.zZ ts by_=true:=by
 unfold M.zZ;rw[jn];intro j hj;rw[h j (List.mem_range.1 hj)];rfl
theorem aiW{ts:List M.Tn}{by_:List Int}{j:Nat}(hj:j<ts.length)(h:((ts.map (·.af)).getD j 0==3&&decide (by_.getD j 0<0))=true):M.zZ ts by_=false:=by
 unfold M.zZ;rw[List.all_eq_false];exact⟨j,List.mem_range.2 hj,by simp only[h];simp⟩
theorem WW{ts:List M.Tn}{by_:List Int}{k:Nat}(h:Mh ts by_ k)(hk:((ts.map (·.af)).getD k 0==3&&decide (by_.getD k 0<0))=false):Mh ts by_ (k+1):=by
 intro j hj;rcases cE j k with h' | h'
 ·exact h j h'
 ·obtain rfl:j=k:=by omega
  exact hk
theorem aiX(m:Nat)(md:M.Md)(w:World)(h:cN w m md)(hw:lO md) :
  Calls prog 165 #[.pointer (some ⟨m,0,none⟩)] w fun e w'=>w.grownBy w' none/\((M.mF md=none/\e=.returned (.tuple #[.slice none 0 0,.bool false])) \/
   ∃by_ g,Hid (M.mF md=some by_)/\by_.length<=255/\e=.returned (.tuple #[.slice (some ⟨g,0,none⟩) by_.length by_.length,.bool true])/\aZ w' w.heap.size (.slice (some ⟨g,0,none⟩) by_.length by_.length) by_):=by
 obtain⟨i0,hi,cP,cQ,cZ⟩:=info_parts Tryz.oO;have iq:=hw.nt;have kl:=hw.no;have hM:=h;obtain⟨a1,c1,a2,c2,a3,c3,hB,hT,hO,hU⟩:=h;have q0:w.cell? ⟨m,0,none⟩=some (.slice a1 md.au.length c1):=hB.cell 0;have q1:w.cell? ⟨m,1,none⟩=some (.slice a2 md.ag.length c2):=hB.cell 1;have qk:=hB.lt;clear hU;go_enter func165,ntmps165;go_wp2_with (at_make;refine qg _ rfl _ _ 33 rfl w.heap.size 3 i0 (.int .i64 0) 1 underlying33 hi cP cQ _ _ _ _ md.au.length rfl rfl rfl rfl ?c1 ?c2 ?c3 ?_)
 case c1=>rw[cZ];omega
 case c2=>unfold maxLen;omega
 case c3=>exact bj _
 intro w2 cB aM;have ff:=xl cB;have e0:(List.replicate md.au.length (Value.int .i64 0)).toArray=vE md.au.length 0:=by simp[vE]
 rw[e0] at ff;clear cB e0;go_wp2;go_loopw[18] (fun i wr=>∃k:Nat,k<=md.au.length/\i=.int .i64 k/\aj wr w.heap.size 3 (vE md.au.length k)/\w.grownBy wr none) (fun i _=>md.au.length-(intOf i).toNat)
 case atStart=>exact⟨0,bK _,rfl,ff,aM⟩
 case round=>
  obtain⟨k,hk,rfl,bV,aF⟩:=hrel;by_cases aJ:k<md.au.length
  ·obtain⟨y,hy⟩:=aiT md.au.length k k hk aJ
   have hc:=bV.cell k;rw[hy] at hc;have hf:=bV.free k;have HB:=ae (bV.set k (.int .i64 (-1)));rw[aiS _ _ aJ] at HB;have hgn:=dF aF (bD wr w.heap.size k (.int .i64 (-1))) (bj _);clear bV hy;go_wp2;go_roundw
   case rel=>exact⟨k+1,by omega,by go_num,HB.out,hgn⟩
   case measure=>simp[intOf];omega
  ·obtain rfl:k=md.au.length:=by omega
   have ez:vE md.au.length md.au.length=((List.replicate md.au.length (-1:Int)).map (Value.int .i64)).toArray:=by simp[vE]
   rw[ez] at bV;obtain⟨wo,rfl⟩:∃wo:World,wo=wr:=⟨_,rfl⟩;have q1o:wo.cell? ⟨m,1,none⟩=some (.slice a2 md.ag.length c2):=(hB.kept aF (by simp)).cell 1;clear ez ff aM;go_wp2;have IA:=ae hM;clear hM q0 q1 q1o;go_loopw[30] (fun i wr=>∃(k:Nat) (by_:List Int),k<=md.ag.length/\i=.int .i64 k/\M.makersTo md k=some by_/\by_.length=md.au.length/\aj wr w.heap.size 3 (by_.map (Value.int .i64)).toArray/\w.grownBy wr none) (fun i _=>md.ag.length-(intOf i).toNat)
   case atStart=>exact⟨0,_,bK _,rfl,rfl,by simp,bV,aF⟩
   case round=>
    clear bV aF;obtain⟨k,by_,hk,rfl,Ah,dh,bV,aF⟩:=hrel;have yJ:=ae Ah;have xu:=ae dh;clear Ah dh;by_cases aJ:k<md.ag.length
    ·obtain⟨o,ho⟩:∃o,md.ag[k]?=some o:=⟨_,aS aJ⟩
     obtain⟨g,ao,p,cp,rfl,gQ,-,-,hR⟩:=(hO.Z aF).get k o ho;have Ho:=ae ho;have mK:cN (wr.alloc (.cells (aO o (.slice ao p cp)) 142)) m md:=(IA.out.Z aF).Z (aQ _ _ _);have aH:w.grownBy (wr.alloc (.cells (aO o (.slice ao p cp)) 142)) none:=aC aF (aQ _ _ _);have v5:(aO o (.slice ao p cp))[5]?=some (.int .i64 o.to):=rfl;have Ml:=bV.lt;clear ho hT hO hB
     cases vF:M.jM md o.to 3 with
     | false=>
      have Hn:=ae (WV (by omega) (aiN yJ.out Ho.out vF));have BP:=ae vF;clear vF;go_wp2_with (first|(refine wpList_load_mid rfl 142 _ rfl g (k*16) rfl (aO o (.slice ao p cp)).toList _ hR underlying142 rfl Tryz.de ?_)|(refine aaY rfl 142 _ _ rfl wr.heap.size (aO o (.slice ao p cp)) rfl rfl 142 (aR 0 0 0 0 0 0 0 0 false (.slice none 0 0) 0 0 0 0 0 0) (aj.bA wr 142 _) Tryz.de rfl (oe ..) ?_;rw[World.setRow_alloc_new]));refine(Iw m md o.to 3 _ mK iq).mono ?_;rintro e w5⟨rfl,oh⟩;rw[oh,BP.out];clear oh;go_wp2
      go_ret2
      exact⟨aH,.inl ⟨Hn.out,rfl⟩⟩
     | true=>
      obtain⟨j,hj,ko⟩:=aiR vF;have ai0:j<by_.length:=by rw[xu.out];exact ko
      obtain⟨x,hx⟩:∃x,by_[j]?=some x:=⟨_,aS ai0⟩;have WX:by_.getD o.to.toNat 0=x:=by rw[hj,eC,oa,hx];rfl
      have km:aj (wr.alloc (.cells (aO o (.slice ao p cp)) 142)) w.heap.size 3 (by_.map (Value.int .i64)).toArray:=bV.alloc _;have Mm:(wr.alloc (.cells (aO o (.slice ao p cp)) 142)).cell? ⟨w.heap.size,j,none⟩=some (.int .i64 x):=by rw[km.cell j];exact QD hx
      have hcw:wr.cell? ⟨w.heap.size,j,none⟩=some (.int .i64 x):=by rw[bV.cell j];exact QD hx
      have hfw:=bV.free j;have BP:=ae vF;have WY:=ae WX;have Hcj:=ae Mm;have nF:=ae km;have eK:=ae bV;have Hj:=ae hj;rw[hj] at v5 BP;clear vF WX Mm km bV hj hx;by_cases mH:0<=x
      ·have Hn:=ae (WV (by omega) (aiO yJ.out Ho.out (by rw[WY.out];exact mH)))
       go_wp2_with (first|(refine wpList_load_mid rfl 142 _ rfl g (k*16) rfl (aO o (.slice ao p cp)).toList _ hR underlying142 rfl Tryz.de ?_)|(refine aaY rfl 142 _ _ rfl wr.heap.size (aO o (.slice ao p cp)) rfl rfl 142 (aR 0 0 0 0 0 0 0 0 false (.slice none 0 0) 0 0 0 0 0 0) (aj.bA wr 142 _) Tryz.de rfl (oe ..) ?_;rw[World.setRow_alloc_new]));refine(Iw m md j 3 _ mK iq).mono ?_;rintro e w5⟨rfl,oh⟩;rw[oh,BP.out];clear oh;go_wp2
       go_ret2
       exact⟨aH,.inl ⟨Hn.out,rfl⟩⟩
      ·have hy:=aiP yJ.out Ho.out (by rw[Hj.out];exact BP.out) (by rw[WY.out];omega)
       rw[Hj.out,eC] at hy;have Hy:=ae hy;clear hy;have HS:=ae (eK.out.set j (.int .i64 k));rw[aiU] at HS;have iB:w.grownBy ((wr.setCell ⟨w.heap.size,j,none⟩ (.int .i64 k)).alloc (.cells (aO o (.slice ao p cp)) 142)) none:=aC (dF aF (bD wr w.heap.size j (.int .i64 k)) (bj _)) (aQ _ _ _);go_wp2_with (first|(refine wpList_load_mid rfl 142 _ rfl g (k*16) rfl (aO o (.slice ao p cp)).toList _ hR underlying142 rfl Tryz.de ?_)|(refine aaY rfl 142 _ _ rfl wr.heap.size (aO o (.slice ao p cp)) rfl rfl 142 (aR 0 0 0 0 0 0 0 0 false (.slice none 0 0) 0 0 0 0 0 0) (aj.bA wr 142 _) Tryz.de rfl (oe ..) ?_;rw[World.setRow_alloc_new]));refine(Iw m md j 3 _ mK iq).mono ?_;rintro e w5⟨rfl,oh⟩;rw[oh,BP.out];clear oh;have Hgs:=ae iB;clear iB;go_wp2;go_roundw
       case rel=>
        refine⟨k+1,by_.set j k,by omega,by go_num,Hy.out,by rw[kK];exact xu.out,?_,Hgs.out⟩;exact HS.out.alloc _
       case measure=>simp[intOf];omega
    ·obtain rfl:k=md.ag.length:=by omega
     have vC:wr.cell? ⟨m,0,none⟩=some (.slice a1 md.au.length c1):=(hB.kept aF (by simp)).cell 0;clear hB hO;go_wp2;clear vC;have iX:by_.length<=255:=by rw[xu.out];exact iq
     go_loopw[59] (fun i wr=>∃k:Nat,k<=md.au.length/\i=.int .i64 k/\Mh md.au by_ k/\aj wr w.heap.size 3 (by_.map (Value.int .i64)).toArray/\w.grownBy wr none) (fun i _=>md.au.length-(intOf i).toNat)
     case atStart=>exact⟨0,bK _,rfl,fun j hj=>by omega,bV,aF⟩
     case round=>
      clear bV aF;obtain⟨k,DO,rfl,BQ,bV,aF⟩:=hrel;by_cases qn:k<md.au.length
      ·obtain⟨t,ht⟩:∃t,md.au[k]?=some t:=⟨_,aS qn⟩
       obtain⟨g,ao,m',cp,rfl,-,-,-,d0,d1,d2,d3,d4,d5⟩:=(hT.Z aF).get k t ht;have gQ:g<wr.heap.size:=ql wr _ d0;have Ml:=bV.lt;have pz:k<by_.length:=by rw[xu.out];exact qn
       obtain⟨x,hx⟩:∃x,by_[k]?=some x:=⟨_,aS pz⟩;have hcw:wr.cell? ⟨w.heap.size,k,none⟩=some (.int .i64 x):=by rw[bV.cell k];exact QD hx
       have ek:((md.au.map (·.af)).getD k 0==3&&decide (by_.getD k 0<0))=(t.af==3&&decide (x<0)):=by
        rw[Qw ht,oa,hx];rfl
       have QE:=ae ek;have BS:=ae BQ;have gn:w.grownBy (wr.alloc (.cells (t6 t.af t.h t.w t.c t.zero (.slice ao m' cp)) 158)) none:=aC aF (aQ _ _ _);have WZ:=ae (bV.alloc (.cells (t6 t.af t.h t.w t.c t.zero (.slice ao m' cp)) 158));have QF:=ae gn;clear ek BQ hT ht hx bV gn;by_cases k3:t.af=3
       ·have Fv:(t.af==3)=true:=by simp[k3]
        clear k3;by_cases mH:x<0
        ·have Hn:=ae (show M.mF md=none by
          have e1:=aiW qn (by rw[QE.out,Fv,eG mH];rfl);simp only[M.mF,yJ.out,e1];rfl)
         go_wp2
         go_ret2
         exact⟨QF.out,.inl ⟨Hn.out,rfl⟩⟩
        ·have fm:=ae (WW BS.out (by rw[QE.out,Fv,eE mH];rfl))
         go_wp2;go_roundw
         case rel=>exact⟨k+1,by omega,by go_num,fm.out,WZ.out,QF.out⟩
         case measure=>simp[intOf];omega
       ·have Fv:(t.af==3)=false:=by simp[k3]
        have fm:=ae (WW BS.out (by rw[QE.out,Fv];rfl));clear k3;go_wp2;go_roundw
        case rel=>exact⟨k+1,by omega,by go_num,fm.out,WZ.out,QF.out⟩
        case measure=>simp[intOf];omega
      ·obtain rfl:k=md.au.length:=by omega
       have Hy:=ae (show M.mF md=some by_ by simp only[M.mF,yJ.out,aiV BQ];rfl);have HI:=ae (aZ.sO (bj _) rfl (by unfold maxLen;omega) bV:aZ wr w.heap.size (.slice (some ⟨w.heap.size,0,none⟩) by_.length by_.length) by_);clear BQ hT bV;go_wp2
       go_ret2
       refine⟨aF,.inr ⟨by_,w.heap.size,Hy,iX,?_,HI.out⟩⟩;rw[xu.out]
       rfl
theorem ai3{md:M.Md}(h:M.mF md=none):M.lJ md=false:=by simp[M.lJ,h]
def QG(md:M.Md)(by_:List Int)(k:Nat):Prop:=∀j o,j<k->md.ag[j]?=some o->M.lI md by_ j o=true
def QH(md:M.Md)(k:Nat):Prop:=∀j x,j<k->md.aK[j]?=some x->M.lZ md x=true
theorem ai4{md:M.Md}{by_:List Int}{k:Nat}{o:M.Op}(hm:M.mF md=some by_)(ho:md.ag[k]?=some o)(h:M.lI md by_ k o=false):M.lJ md=false:=by
 have hk:k<md.ag.length:=by
  rcases cE k md.ag.length with h' | h'
  ·exact h'
  ·simp[db h'] at ho
 simp only[M.lJ,hm];rw[Bool.and_eq_false_iff]
 left
 rw[List.all_eq_false];exact⟨k,List.mem_range.2 hk,by simp only[ho,h];simp⟩
theorem ai5{md:M.Md}{by_:List Int}{k:Nat}{x:Int}(hm:M.mF md=some by_)(ho:md.aK[k]?=some x)(h:M.lZ md x=false):M.lJ md=false:=by
 simp only[M.lJ,hm];rw[Bool.and_eq_false_iff]
 right
 rw[List.all_eq_false];exact⟨x,bU ho,by simp[h]⟩
theorem ai6{md:M.Md}{by_:List Int}(hm:M.mF md=some by_)(h1:QG md by_ md.ag.length)(h2:QH md md.aK.length):M.lJ md=true:=by
 simp only[M.lJ,hm];rw[eX]
 constructor
 ·rw[jn]
  intro j hj;have rK:=List.mem_range.1 hj;have ho:md.ag[j]?=some md.ag[j]:=aS rK;simp only[ho];exact h1 j _ rK ho
 ·rw[jn]
  intro x hx;obtain⟨j,hj,e⟩:=List.mem_iff_getElem.1 hx;exact h2 j x hj (by rw[aS hj,e])
theorem ai7(m:Nat)(md:M.Md)(w:World)(h:cN w m md)(hw:lO md) :
  Calls prog 140 #[.pointer (some ⟨m,0,none⟩)] w fun e w'=>e=.returned (.bool (M.lJ md))/\w.grownBy w' none:=by
 have iq:=hw.nt;have kl:=hw.no;have BN:=hw.nu;have hM:=h;have hW:=ae hw;clear hw;go_enter func140,ntmps140;go_wp2_with fail;refine(aiX m md w h hW.out).mono ?_;rintro e w1⟨aH,⟨xv,rfl⟩|⟨by_,gb,Ah,dh,rfl,lQ⟩⟩
 ·have He:=ae (ai3 xv)
  clear xv;go_wp2;go_ret;exact⟨bB He.out.symm,aH⟩
 ·obtain⟨a1,c1,a2,c2,a3,c3,hB,hT,hO,hU⟩:=h
  have q1:w1.cell? ⟨m,1,none⟩=some (.slice a2 md.ag.length c2):=(hB.kept aH (by simp)).cell 1;have HM:=ae hM;clear hT hM;go_wp2;clear q1;go_loopw[21] (fun i wr=>∃k:Nat,k<=md.ag.length/\i=.int .i64 k/\QG md by_ k/\aZ wr w.heap.size (.slice (some ⟨gb,0,none⟩) by_.length by_.length) by_/\w.grownBy wr none) (fun i _=>md.ag.length-(intOf i).toNat)
  case atStart=>exact⟨0,bK _,rfl,fun j o hj=>by omega,lQ,aH⟩
  case round=>
   clear lQ aH;obtain⟨k,hk,rfl,DP,QI,aF⟩:=hrel;by_cases aJ:k<md.ag.length
   ·obtain⟨o,ho⟩:∃o,md.ag[k]?=some o:=⟨_,aS aJ⟩
    obtain⟨g,ao,p,cp,rfl,gQ,-,-,hR⟩:=(hO.Z aF).get k o ho;have Ho:=ae ho;have mK:cN (wr.alloc (.cells (aO o (.slice ao p cp)) 142)) m md:=(HM.out.Z aF).Z (aQ _ _ _);have aH:w.grownBy (wr.alloc (.cells (aO o (.slice ao p cp)) 142)) none:=aC aF (aQ _ _ _);have hIn:=QI.Z (aQ wr (.cells (aO o (.slice ao p cp)) 142) none);have HB:=ae (aj.bA wr 142 (aO o (.slice ao p cp)));have QJ:=ae DP;clear ho hO hB hU QI DP;go_wp2_with (first|(refine wpList_load_mid rfl 142 _ rfl g (k*16) rfl (aO o (.slice ao p cp)).toList _ hR underlying142 rfl Tryz.de ?_)|(refine aaY rfl 142 _ _ rfl wr.heap.size (aO o (.slice ao p cp)) rfl rfl 142 (aR 0 0 0 0 0 0 0 0 false (.slice none 0 0) 0 0 0 0 0 0) (aj.bA wr 142 _) Tryz.de rfl (oe ..) ?_;rw[World.setRow_alloc_new])|(refine dj rfl 142 _ rfl wr.heap.size rfl 142 (aO o (.slice ao p cp)) (0,0) _ HB.out underlying142 rfl Tryz.de ?_));refine(aiM m w.heap.size md _ _ _ by_ k o ao p cp _ mK iq hIn dh).mono ?_;rintro e w3⟨rfl,aU⟩;have jC:=aC aH aU;have lh:=hIn.Z aU;clear hIn aU aH mK hR
    cases hr:M.lI md by_ k o with
    | false=>
     have He:=ae (ai4 Ah.out Ho.out hr);clear hr;go_wp2;go_ret;exact⟨bB He.out.symm,jC⟩
    | true=>
     have fm:=ae (show QG md by_ (k+1) from fun j o' hj iM=>by
      rcases cE j k with h' | h'
      ·exact QJ.out j o' h' iM
      ·obtain rfl:j=k:=by omega
       rw[Ho.out] at iM;injection iM with e';rw[<-e'];exact hr)
     clear hr;go_wp2;go_roundw
     case rel=>exact⟨k+1,by omega,by go_num,fm.out,lh,jC⟩
     case measure=>simp[intOf];omega
   ·obtain rfl:k=md.ag.length:=by omega
    have q2:wr.cell? ⟨m,2,none⟩=some (.slice a3 md.aK.length c3):=(hB.kept aF (by simp)).cell 2;have QJ:=ae DP;clear hB hO DP QI;go_wp2;clear q2;go_loopw[38] (fun i wr=>∃k:Nat,k<=md.aK.length/\i=.int .i64 k/\QH md k/\w.grownBy wr none) (fun i _=>md.aK.length-(intOf i).toNat)
    case atStart=>exact⟨0,bK _,rfl,fun j o hj=>by omega,aF⟩
    case round=>
     clear aF;obtain⟨k,DO,rfl,W3,aF⟩:=hrel;have W4:=ae W3;clear W3;by_cases qn:k<md.aK.length
     ·obtain⟨x,hx⟩:∃x,md.aK[k]?=some x:=⟨_,aS qn⟩
      obtain⟨g,rfl,gQ,-,d0⟩:=(hU.Z aF).get k x hx;have hMr:=HM.out.Z aF;have Hx:=ae hx;clear hU hx;go_wp2_with fail;refine(L6 m md x wr hMr iq).mono ?_;rintro e w5⟨rfl,oh⟩;rw[oh];clear oh
      cases hr:M.lZ md x with
      | false=>
       have He:=ae (ai5 Ah.out Hx.out hr);clear hr;go_wp2;go_ret;exact⟨bB He.out.symm,aF⟩
      | true=>
       have fm:=ae (show QH md (k+1) from fun j o' hj iM=>by
        rcases cE j k with h' | h'
        ·exact W4.out j o' h' iM
        ·obtain rfl:j=k:=by omega
         rw[Hx.out] at iM;injection iM with e';rw[<-e'];exact hr)
       clear hr;go_wp2;go_roundw
       case rel=>exact⟨k+1,by omega,by go_num,fm.out,aF⟩
       case measure=>simp[intOf];omega
     ·obtain rfl:k=md.aK.length:=by omega
      have He:=ae (ai6 Ah.out QJ.out W4.out);clear hU;go_wp2;go_ret;exact⟨bB He.out.symm,aF⟩
theorem W5(t:M.Tn)(dv:Value):(bg t dv)[0]?=some (.int .i64 t.af):=rfl
theorem yK(t:M.Tn)(dv:Value):(bg t dv)[1]?=some (.int .i64 t.h):=rfl
theorem Ai(t:M.Tn)(dv:Value):(bg t dv)[2]?=some (.int .i64 t.w):=rfl
theorem Aj(t:M.Tn)(dv:Value):(bg t dv)[3]?=some (.int .i64 t.c):=rfl
theorem W6(t:M.Tn)(dv:Value):(bg t dv)[4]?=some (.int .i64 t.zero):=rfl
theorem QK(a z:M.Tn)(da dz:Value)(w:World) :
  Calls prog 190 #[.agg (bg a da),.agg (bg z dz)] w fun e w'=>e=.returned (.bool (M.kY a z))/\w.grownBy w' none:=by
 have a1:=yK a da;have a2:=Ai a da;have a3:=Aj a da;have z1:=yK z dz;have z2:=Ai z dz;have z3:=Aj z dz
 cases h1:(a.h==z.h) with
 | false=>
  have He:=ae (show M.kY a z=false by simp only[M.kY,h1];rfl);go_enter func190,ntmps190;go_wp2;go_ret;exact⟨bB He.out.symm,nZ _ _ _ _⟩
 | true=>
  cases h2:(a.w==z.w) with
  | false=>
   have He:=ae (show M.kY a z=false by simp only[M.kY,h1,h2];rfl);go_enter func190,ntmps190;go_wp2;go_ret;exact⟨bB He.out.symm,nZ _ _ _ _⟩
  | true=>
   have He:=ae (show M.kY a z=(a.c==z.c) by simp only[M.kY,h1,h2];rfl);go_enter func190,ntmps190;go_wp2;go_ret;exact⟨bB He.out.symm,nZ _ _ _ _⟩
theorem QL(a:M.Tn)(da:Value)(n:Int)(w:World) :
  Calls prog 196 #[.agg (bg a da),.int .i64 n] w fun e w'=>e=.returned (.bool (M.isRow a n))/\w.grownBy w' none:=by
 have a1:=yK a da;have a2:=Ai a da;have a3:=Aj a da
 cases h1:(a.h==1) with
 | false=>
  have He:=ae (show M.isRow a n=false by simp only[M.isRow,h1];rfl);go_enter func196,ntmps196;go_wp2;go_ret;exact⟨bB He.out.symm,aQ _ _ _⟩
 | true=>
  cases h2:(a.w==1) with
  | false=>
   have He:=ae (show M.isRow a n=false by simp only[M.isRow,h1,h2];rfl);go_enter func196,ntmps196;go_wp2;go_ret;exact⟨bB He.out.symm,aQ _ _ _⟩
  | true=>
   have He:=ae (show M.isRow a n=(a.c==n) by simp only[M.isRow,h1,h2];rfl);go_enter func196,ntmps196;go_wp2;go_ret;exact⟨bB He.out.symm,aQ _ _ _⟩
theorem Mn(n l s:Int)(same:Bool)(w:World)(_n0:0<=n)(_n1:n<=255)(_l0:0<=l)(_l1:l<=255)(_s0:0<=s)(_s1:s<=255) :
  Calls prog 195 #[.int .i64 n,.int .i64 l,.int .i64 s,.bool same] w fun e w'=>e=.returned (.int .i64 (M.dP n l s same))/\w'=w:=by
 by_cases h1:s<1
 ·have He:=ae (show M.dP n l s same=0 by unfold M.dP;rw[ay (.inl h1)])
  go_enter func195,ntmps195;go_wp2;go_ret;exact⟨cH He.out.symm,rfl⟩
 ·by_cases h2:n<1
  ·have He:=ae (show M.dP n l s same=0 by unfold M.dP;rw[ay (.inr h2)])
   go_enter func195,ntmps195;go_wp2;go_ret;exact⟨cH He.out.symm,rfl⟩
  ·cases same with
   | true=>
    have He:=ae (show M.dP n l s true=(l+s-1)/s by unfold M.dP;rw[ak (by omega),ay rfl]);go_enter func195,ntmps195;go_wp2;go_ret;exact⟨cH He.out.symm,rfl⟩
   | false=>
    by_cases h3:l<n
    ·have He:=ae (show M.dP n l s false=0 by unfold M.dP;rw[ak (by omega),ak (by simp),ay h3])
     go_enter func195,ntmps195;go_wp2;go_ret;exact⟨cH He.out.symm,rfl⟩
    ·have He:=ae (show M.dP n l s false=(l-n)/s+1 by unfold M.dP;rw[ak (by omega),ak (by simp),ak h3])
     have hq:0<=(l-n)/s/\(l-n)/s<=255:=by
      have h0:0<=(l-n)/s:=Int.ediv_nonneg (by omega) (by omega);have h1:(l-n)/s<=l-n:=Int.ediv_le_self _ (by omega);exact⟨h0,by omega⟩
     obtain⟨W7,hq1⟩:=hq;go_enter func195,ntmps195;go_wp2;go_ret;exact⟨cH He.out.symm,rfl⟩
theorem mf(o:M.Op)(sv:Value):(aO o sv)[0]?=some (.int .i64 o.af):=rfl
theorem xw(o:M.Op)(sv:Value):(aO o sv)[1]?=some (.int .i64 o.a):=rfl
theorem ov6(o:M.Op)(sv:Value):(aO o sv)[6]?=some (.int .i64 o.size):=rfl
theorem W8(o:M.Op)(sv:Value):(aO o sv)[7]?=some (.int .i64 o.aE):=rfl
theorem ov8(o:M.Op)(sv:Value):(aO o sv)[8]?=some (.bool o.same):=rfl
theorem ov9(o:M.Op)(sv:Value):(aO o sv)[9]?=some sv:=rfl
theorem ajd(o:M.Op)(sv:Value):(aO o sv)[10]?=some (.int .i64 o.lo):=rfl
theorem aje(o:M.Op)(sv:Value):(aO o sv)[11]?=some (.int .i64 o.hi):=rfl
theorem IB(w:World)(o o' o2:Obj)(row:Option Nat):w.grownBy (((w.alloc o).alloc o').alloc o2) row:=aC (nZ w o o' row) (aQ _ _ _)
theorem W9(o:M.Op)(a z:M.Tn)(sv da dz:Value)(w:World)(ho:mb o)(ha:dZ a) :
  Calls prog 191 #[.agg (aO o sv),.agg (bg a da),.agg (bg z dz)] w fun e w'=>e=.returned (.bool (M.rG o a z))/\w.grownBy w' none:=by
 have o6:=ov6 o sv;have o7:=W8 o sv;have a1:=yK a da;have a2:=Ai a da;have a3:=Aj a da;have z1:=yK z dz;have z2:=Ai z dz;have z3:=Aj z dz;go_enter func191,ntmps191;go_wp2_with fail;refine(Mn o.size a.h o.aE false _ ho.size.1 ho.size.2 ha.h0 ha.h1 ho.aE.1 ho.aE.2).mono ?_;rintro e w1⟨rfl,eM⟩;rw[eM];clear eM;go_wp2_with fail;refine(Mn o.size a.w o.aE false _ ho.size.1 ho.size.2 ha.w0 ha.w1 ho.aE.1 ho.aE.2).mono ?_;rintro e w1⟨rfl,eM⟩;rw[eM];clear eM
 cases h1:(z.h==M.dP o.size a.h o.aE false) with
 | false=>
  have He:=ae (show M.rG o a z=false by simp only[M.rG,h1];rfl);go_wp2;go_ret;exact⟨bB He.out.symm,IB _ _ _ _ _⟩
 | true=>
  cases h2:(z.w==M.dP o.size a.w o.aE false) with
  | false=>
   have He:=ae (show M.rG o a z=false by simp only[M.rG,h1,h2];rfl);go_wp2;go_ret;exact⟨bB He.out.symm,IB _ _ _ _ _⟩
  | true=>
   have He:=ae (show M.rG o a z=(z.c==a.c) by simp only[M.rG,h1,h2];rfl);go_wp2;go_ret;exact⟨bB He.out.symm,IB _ _ _ _ _⟩
theorem Xa(t:M.Tn)(dv:Value):(bg t dv)[5]?=some dv:=rfl
theorem QM(w:World)(o1 o2 o3 o4 o5:Obj)(row:Option Nat):w.grownBy (((((w.alloc o1).alloc o2).alloc o3).alloc o4).alloc o5) row:=aC (IB w o1 o2 o3 row) (nZ _ _ _ _)
theorem ajf(w:World)(T1 T2 T3 T4 T5:TypeId)(A B C D E:Array Value):aj (((((w.alloc (.cells A T1)).alloc (.cells B T2)).alloc (.cells C T3)).alloc (.cells D T4)).alloc (.cells E T5)) w.heap.size T1 A /\
  aj (((((w.alloc (.cells A T1)).alloc (.cells B T2)).alloc (.cells C T3)).alloc (.cells D T4)).alloc (.cells E T5)) (w.heap.size+1) T2 B /\
  aj (((((w.alloc (.cells A T1)).alloc (.cells B T2)).alloc (.cells C T3)).alloc (.cells D T4)).alloc (.cells E T5)) (w.heap.size+1+1) T3 C /\
  aj (((((w.alloc (.cells A T1)).alloc (.cells B T2)).alloc (.cells C T3)).alloc (.cells D T4)).alloc (.cells E T5)) (w.heap.size+1+1+1) T4 D /\
  aj (((((w.alloc (.cells A T1)).alloc (.cells B T2)).alloc (.cells C T3)).alloc (.cells D T4)).alloc (.cells E T5)) (w.heap.size+1+1+1+1) T5 E:=by
 have h1:=aj.bA w T1 A;have h2:=aj.bA (w.alloc (.cells A T1)) T2 B;have h3:=aj.bA ((w.alloc (.cells A T1)).alloc (.cells B T2)) T3 C;have h4:=aj.bA (((w.alloc (.cells A T1)).alloc (.cells B T2)).alloc (.cells C T3)) T4 D;have h5:=aj.bA ((((w.alloc (.cells A T1)).alloc (.cells B T2)).alloc (.cells C T3)).alloc (.cells D T4)) T5 E;simp only[World.size_alloc] at h2 h3 h4 h5;exact⟨(((h1.alloc _).alloc _).alloc _).alloc _,((h2.alloc _).alloc _).alloc _,(h3.alloc _).alloc _,h4.alloc _,h5⟩
theorem ajg{o:M.Op}{a w b z:M.Tn}(h:(z.h !=M.dP w.h a.h o.aE o.same)=true):M.qe o a w b z=false:=by
 unfold M.qe;rw[ay (.inl (by simpa using h))]
theorem ajh{o:M.Op}{a w b z:M.Tn}(h:(z.w !=M.dP w.w a.w o.aE o.same)=true):M.qe o a w b z=false:=by
 unfold M.qe;rw[ay (.inr (.inl (by simpa using h)))]
theorem aji{o:M.Op}{a w b z:M.Tn}(h:M.isRow b z.c=false):M.qe o a w b z=false:=by
 unfold M.qe;rw[ay (.inr (.inr h))]
theorem ajj{o:M.Op}{a w b z:M.Tn}(h1:(z.h !=M.dP w.h a.h o.aE o.same)=false)(h2:(z.w !=M.dP w.w a.w o.aE o.same)=false)(h3:M.isRow b z.c=true):M.qe o a w b z=if o.af=2 then w.c==a.c&&z.c==a.c else w.c==a.c*z.c:=by
 unfold M.qe;rw[ak];simp at h1 h2;simp[h1,h2,h3]
theorem Xb(o:M.Op)(a we b z:M.Tn)(sv da dw dz:Value)(ab:Option Addr)(nb cb:Nat)(w:World)(ho:mb o)(ha:dZ a)(hw:dZ we)(hz:dZ z) :
  Calls prog 188 #[.agg (aO o sv),.agg (bg a da),.agg (bg we dw),.agg (bg b (.slice ab nb cb)),.agg (bg z dz)] w fun e w'=>e=.returned (.bool (M.qe o a we b z))/\w.grownBy w' none:=by
 have o0:=mf o sv;have o7:=W8 o sv;have o8:=ov8 o sv;have a1:=yK a da;have a2:=Ai a da;have a3:=Aj a da;have w1:=yK we dw;have w2:=Ai we dw;have w3:=Aj we dw;have z1:=yK z dz;have z2:=Ai z dz;have z3:=Aj z dz;have b0:=W5 b (.slice ab nb cb);have b1:=yK b (.slice ab nb cb);have b2:=Ai b (.slice ab nb cb);have b3:=Aj b (.slice ab nb cb);have b4:=W6 b (.slice ab nb cb);have b5:=Xa b (.slice ab nb cb);go_enter func188,ntmps188;go_wp2_with fail;refine(Mn we.h a.h o.aE o.same _ hw.h0 hw.h1 ha.h0 ha.h1 ho.aE.1 ho.aE.2).mono ?_;rintro e w1⟨rfl,eM⟩;rw[eM];clear eM;go_wp2_with fail;refine(Mn we.w a.w o.aE o.same _ hw.w0 hw.w1 ha.w0 ha.w1 ho.aE.1 ho.aE.2).mono ?_;rintro e w1⟨rfl,eM⟩;rw[eM];clear eM
 cases h1:(z.h !=M.dP we.h a.h o.aE o.same) with
 | true=>
  have He:=ae (ajg (b:=b) h1);go_wp2;go_ret;exact⟨bB He.out.symm,QM _ _ _ _ _ _ _⟩
 | false=>
  cases h2:(z.w !=M.dP we.w a.w o.aE o.same) with
  | true=>
   have He:=ae (ajh (b:=b) h2);go_wp2;go_ret;exact⟨bB He.out.symm,QM _ _ _ _ _ _ _⟩
  | false=>
   have Fw:=ajf w 142 158 158 158 158 (aO o sv) (bg a da) (bg we dw) (bg b (.slice ab nb cb)) (bg z dz);have BU:=ae Fw;clear Fw;go_wp2_with fail;refine(QL b (.slice ab nb cb) z.c _).mono ?_;rintro e w6⟨rfl,fE⟩;have yD:=aC (QM w _ _ _ _ _ _) fE;obtain⟨k1,k2,k3,-,k5⟩:=BU.out;have c0:w6.cell? ⟨w.heap.size,0,none⟩=some (.int .i64 o.af):=(k1.kept fE (by simp)).cell 0;have c1:w6.cell? ⟨w.heap.size+1,3,none⟩=some (.int .i64 a.c):=(k2.kept fE (by simp)).cell 3;have c2:w6.cell? ⟨w.heap.size+1+1,3,none⟩=some (.int .i64 we.c):=(k3.kept fE (by simp)).cell 3;have c4:w6.cell? ⟨w.heap.size+1+1+1+1,3,none⟩=some (.int .i64 z.c):=(k5.kept fE (by simp)).cell 3;clear k1 k2 k3 k5 fE o0 o7 o8 a1 a2 a3 w2 w3 z1 z2 z3 b0 b1 b2 b3 b4 b5
   cases h3:M.isRow b z.c with
   | false=>
    have He:=ae (aji (o:=o) (a:=a) (w:=we) h3);clear h3 h1 h2 c0 c1 c2 c4;go_wp2;go_ret;exact⟨bB He.out.symm,yD⟩
   | true=>
    have He:=ae (ajj h1 h2 h3);clear h3 h1 h2;by_cases hk:o.af=2
    ·have rL:(o.af==2)=true:=by simp[hk]
     have kD:=He.out;rw[ay hk] at kD;have xx:=ae kD;clear kD He hk
     cases h4:(we.c==a.c) with
     | false=>
      go_wp2;go_ret;exact⟨bB (by rw[xx.out,h4];rfl),yD⟩
     | true=>
      go_wp2;go_ret;exact⟨bB (by rw[xx.out,h4];rfl),yD⟩
    ·have rL:(o.af==2)=false:=by simp[hk]
     have kD:=He.out;rw[ak hk] at kD;have xx:=ae kD;clear kD He hk;have p0:0<=a.c*z.c:=lg ha.c0 hz.c0;have p1:a.c*z.c<=255*255:=Int.mul_le_mul ha.c1 hz.c1 hz.c0 (by omega);go_wp2;go_ret;exact⟨bB xx.out.symm,yD⟩
theorem ajk(w:World)(T1 T2 T3 T4:TypeId)(A B C D:Array Value):aj ((((w.alloc (.cells A T1)).alloc (.cells B T2)).alloc (.cells C T3)).alloc (.cells D T4)) w.heap.size T1 A /\
  aj ((((w.alloc (.cells A T1)).alloc (.cells B T2)).alloc (.cells C T3)).alloc (.cells D T4)) (w.heap.size+1) T2 B /\
  aj ((((w.alloc (.cells A T1)).alloc (.cells B T2)).alloc (.cells C T3)).alloc (.cells D T4)) (w.heap.size+1+1) T3 C /\
  aj ((((w.alloc (.cells A T1)).alloc (.cells B T2)).alloc (.cells C T3)).alloc (.cells D T4)) (w.heap.size+1+1+1) T4 D:=by
 have h1:=aj.bA w T1 A;have h2:=aj.bA (w.alloc (.cells A T1)) T2 B;have h3:=aj.bA ((w.alloc (.cells A T1)).alloc (.cells B T2)) T3 C;have h4:=aj.bA (((w.alloc (.cells A T1)).alloc (.cells B T2)).alloc (.cells C T3)) T4 D;simp only[World.size_alloc] at h2 h3 h4;exact⟨((h1.alloc _).alloc _).alloc _,(h2.alloc _).alloc _,h3.alloc _,h4⟩
theorem ajl(w:World)(o1 o2 o3 o4:Obj)(row:Option Nat):w.grownBy ((((w.alloc o1).alloc o2).alloc o3).alloc o4) row:=aC (nZ w o1 o2 row) (nZ _ _ _ _)
theorem Mo(t:M.Tn)(dv:Value)(W:World)(h:dZ t):Calls prog 123 #[.agg (bg t dv)] W fun e W'=>e=.returned (.int .i64 (M.cellsOf t))/\W.grownBy W' none:=
 LX t.af t.h t.w t.c t.zero dv W h.h0 h.h1 h.w0 h.w1 h.c0 h.c1
theorem ajm(a we b z:M.Tn)(aa:Option Addr)(na ca:Nat)(dw dz:Value)(ab:Option Addr)(nb cb:Nat)(w:World)(ha:dZ a) :
  Calls prog 189 #[.agg (bg a (.slice aa na ca)),.agg (bg we dw),.agg (bg b (.slice ab nb cb)),.agg (bg z dz)] w fun e w'=>e=.returned (.bool (M.qL a we b z))/\w.grownBy w' none:=by
 have BU:=ae (ajk w 158 158 158 158 (bg a (.slice aa na ca)) (bg we dw) (bg b (.slice ab nb cb)) (bg z dz));have g0:=ajl w (.cells (bg a (.slice aa na ca)) 158) (.cells (bg we dw) 158) (.cells (bg b (.slice ab nb cb)) 158) (.cells (bg z dz) 158) none;have w1:=yK we dw;go_enter func189,ntmps189;go_wp2_with (refine dj rfl 158 _ rfl (w.heap.size+1+1+1) rfl 158 (bg z dz) (0,0) _ BU.out.2.2.2 underlying158 rfl Tryz.iI ?_);refine(QL z dz we.h _).mono ?_;rintro e w5⟨rfl,cK⟩;have DI:=aC g0 cK;obtain⟨k1,k2,k3,k4⟩:=BU.out;have j1:=k1.kept cK (by simp);have j2:=k2.kept cK (by simp);have j3:=k3.kept cK (by simp);have HJ:=ae (And.intro j1 j2);obtain⟨d0,d1,d2,d3,d4,d5⟩:=mI (k:=b.af) (h:=b.h) (v:=b.w) (c:=b.c) (z:=b.zero) (dv:=.slice ab nb cb) j3;have e1:w5.cell? ⟨w.heap.size+1,1,none⟩=some (.int .i64 we.h):=j2.cell 1;clear k1 k2 k3 k4 cK g0 w1 j1 j2 j3 BU
 cases h1:M.isRow z we.h with
 | false=>
  have He:=ae (show M.qL a we b z=false by simp only[M.qL,h1];rfl);clear h1;go_wp2;go_ret;exact⟨bB He.out.symm,DI⟩
 | true=>
  have H1:=ae h1;clear h1;go_wp2_with fail;refine(QL b (.slice ab nb cb) we.h _).mono ?_;rintro e w6⟨rfl,fE⟩;have yD:=aC DI fE;obtain⟨j1,j2⟩:=HJ.out;have l1:=j1.kept fE (by simp);have l2:=j2.kept fE (by simp);have HL:=ae (And.intro l1 l2);clear d0 d1 d2 d3 d4 d5 e1 j1 j2 HJ fE DI
  cases h2:M.isRow b we.h with
  | false=>
   have He:=ae (show M.qL a we b z=false by simp only[M.qL,H1.out,h2];rfl);clear h2 l1 l2;go_wp2;go_ret;exact⟨bB He.out.symm,yD⟩
  | true=>
   have H2:=ae h2;clear h2;have e2:w6.cell? ⟨w.heap.size+1,2,none⟩=some (.int .i64 we.w):=l2.cell 2;have e3:w6.cell? ⟨w.heap.size+1,3,none⟩=some (.int .i64 we.c):=l2.cell 3;obtain⟨d0,d1,d2,d3,d4,d5⟩:=mI (k:=a.af) (h:=a.h) (v:=a.w) (c:=a.c) (z:=a.zero) (dv:=.slice aa na ca) l1;clear l1 l2
   cases h3:(we.w==1) with
   | false=>
    have He:=ae (show M.qL a we b z=false by simp only[M.qL,H1.out,H2.out,h3];rfl);go_wp2;go_quiet (fail);go_wp2;go_ret;exact⟨bB He.out.symm,aC yD (bE _ _ _)⟩
   | true=>
    have He:=ae (show M.qL a we b z=(we.c==M.cellsOf a) by simp only[M.qL,H1.out,H2.out,h3];rfl);go_wp2
    go_region_with (go_at_call 123;refine(Mo a (.slice aa na ca) _ ha).mono ?_;rintro e w7⟨rfl,dJ⟩;have f3:w7.cell? ⟨w.heap.size+1,3,none⟩=some (.int .i64 we.c):=(aj.kept (aj.drew HL.out.2) dJ (by simp)).cell 3)
    all_goals (go_wp2;go_ret;exact⟨bB He.out.symm,aC (aC yD (gE _ _)) (by assumption)⟩)
theorem jW{md:M.Md}(h:lO md)(n:Int):dZ (M.aq md n):=by
 unfold M.aq
 split
 ·exact⟨by decide,by decide,by decide,by decide,by decide,by decide,by decide,by decide,by decide,by decide⟩
 ·rename_i hn
  have hl:n.toNat<md.au.length:=by omega
  have e:md.au.getD n.toNat M.vx=md.au[n.toNat]:=by
   rw[oa,aS hl];rfl
  rw[e];exact h.ts _ (List.getElem_mem hl)
theorem ajn(m:Nat)(md:M.Md)(o:M.Op)(ao:Option Addr)(p c:Nat)(w:World)(h:cN w m md)(hw:lO md)(_ho:mb o)(hk:o.af=0) :
  Calls prog 168 #[.pointer (some ⟨m,0,none⟩),.agg (aO o (.slice ao p c))] w fun e w'=>e=.returned (.bool (M.bT md o))/\w.grownBy w' none:=by
 have v0:=mf o (.slice ao p c);have v1:=xw o (.slice ao p c);rw[hk] at v0;have Hk:=ae hk;clear hk;have N0:aj (w.alloc (.cells (aO o (.slice ao p c)) 142)) w.heap.size 142 (aO o (.slice ao p c)):=aj.bA _ _ _;have gR:w.grownBy (w.alloc (.cells (aO o (.slice ao p c)) 142)) none:=aQ _ _ _;have gS:=h.Z gR;go_enter func168,ntmps168;go_wp2_with fail;refine(iW m md o.a _ gS hw.nt).mono ?_;rintro e w1⟨t1,dg,⟨eU,p1,c1,rfl⟩,aH⟩;have gT:aj w1 w.heap.size 142 (aO o (.slice ao p c)):=aj.kept N0 aH (by simp);have M1:=cN.Z gS aH;have G1:=aC gR aH;have mL:dZ t1:=by rw[<-dg.out];exact jW hw _
 clear aH N0 gR gS v1 v0;have N1:aj (w1.alloc (.cells (bg t1 (.slice eU p1 c1)) 158)) w1.heap.size 158 (bg t1 (.slice eU p1 c1)):=aj.bA _ _ _;have nG:w1.cell? ⟨w.heap.size,5,none⟩=some (.int .i64 o.to):=gT.cell 5;have gk:w.heap.size<w1.heap.size:=gT.lt;go_wp2_with fail;refine(iW m md o.to _ (M1.Z (aQ _ _ _)) hw.nt).mono ?_;rintro e w2⟨t2,dL,⟨dO,p2,c2,rfl⟩,aM⟩;clear nG gk;have fV:aj w2 (w.heap.size) 142 (aO o (.slice ao p c)):=aj.kept (gT.alloc _) aM (by simp);have mg:aj w2 (w1.heap.size) 158 (bg t1 (.slice eU p1 c1)):=aj.kept N1 aM (by simp);have M2:=cN.Z (M1.Z (aQ _ _ _)) aM;have G2:=aC (aC G1 (aQ _ _ _)) aM;have ub:dZ t2:=by rw[<-dL.out];exact jW hw _
 clear aM;have N2:aj (w2.alloc (.cells (bg t2 (.slice dO p2 c2)) 158)) w2.heap.size 158 (bg t2 (.slice dO p2 c2)):=aj.bA _ _ _;have oR:w2.cell? ⟨w.heap.size,0,none⟩=some (.int .i64 0):=by have q:=fV.cell 0;rw[mf,Hk.out] at q;exact q
 have gk:w.heap.size<w2.heap.size:=fV.lt;have He:=ae (show M.bT md o=false by unfold M.bT;simp only[Hk.out,dg.out,dL.out];rfl);go_wp2;go_ret;exact⟨bB He.out.symm,(aC G2 (aQ _ _ _))⟩
theorem ajo(m:Nat)(md:M.Md)(o:M.Op)(ao:Option Addr)(p c:Nat)(w:World)(h:cN w m md)(hw:lO md)(_ho:mb o)(hk:o.af=7) :
  Calls prog 168 #[.pointer (some ⟨m,0,none⟩),.agg (aO o (.slice ao p c))] w fun e w'=>e=.returned (.bool (M.bT md o))/\w.grownBy w' none:=by
 have v0:=mf o (.slice ao p c);have v1:=xw o (.slice ao p c);rw[hk] at v0;have Hk:=ae hk;clear hk;have N0:aj (w.alloc (.cells (aO o (.slice ao p c)) 142)) w.heap.size 142 (aO o (.slice ao p c)):=aj.bA _ _ _;have gR:w.grownBy (w.alloc (.cells (aO o (.slice ao p c)) 142)) none:=aQ _ _ _;have gS:=h.Z gR;go_enter func168,ntmps168;go_wp2_with fail;refine(iW m md o.a _ gS hw.nt).mono ?_;rintro e w1⟨t1,dg,⟨eU,p1,c1,rfl⟩,aH⟩;have gT:aj w1 w.heap.size 142 (aO o (.slice ao p c)):=aj.kept N0 aH (by simp);have M1:=cN.Z gS aH;have G1:=aC gR aH;have mL:dZ t1:=by rw[<-dg.out];exact jW hw _
 clear aH N0 gR gS v1 v0;have N1:aj (w1.alloc (.cells (bg t1 (.slice eU p1 c1)) 158)) w1.heap.size 158 (bg t1 (.slice eU p1 c1)):=aj.bA _ _ _;have nG:w1.cell? ⟨w.heap.size,5,none⟩=some (.int .i64 o.to):=gT.cell 5;have gk:w.heap.size<w1.heap.size:=gT.lt;go_wp2_with fail;refine(iW m md o.to _ (M1.Z (aQ _ _ _)) hw.nt).mono ?_;rintro e w2⟨t2,dL,⟨dO,p2,c2,rfl⟩,aM⟩;clear nG gk;have fV:aj w2 (w.heap.size) 142 (aO o (.slice ao p c)):=aj.kept (gT.alloc _) aM (by simp);have mg:aj w2 (w1.heap.size) 158 (bg t1 (.slice eU p1 c1)):=aj.kept N1 aM (by simp);have M2:=cN.Z (M1.Z (aQ _ _ _)) aM;have G2:=aC (aC G1 (aQ _ _ _)) aM;have ub:dZ t2:=by rw[<-dL.out];exact jW hw _
 clear aM;have N2:aj (w2.alloc (.cells (bg t2 (.slice dO p2 c2)) 158)) w2.heap.size 158 (bg t2 (.slice dO p2 c2)):=aj.bA _ _ _;have oR:w2.cell? ⟨w.heap.size,0,none⟩=some (.int .i64 7):=by have q:=fV.cell 0;rw[mf,Hk.out] at q;exact q
 have gk:w.heap.size<w2.heap.size:=fV.lt;have He:=ae (show M.bT md o=M.kY t1 t2 by unfold M.bT;simp only[Hk.out,dg.out,dL.out];rfl);go_wp2_with (first|(refine dj rfl 158 _ rfl (w1.heap.size) rfl 158 (bg t1 (.slice eU p1 c1)) (0,0) _ (mg.alloc _) underlying158 rfl Tryz.iI ?_)|(refine dj rfl 158 _ rfl (w2.heap.size) rfl 158 (bg t2 (.slice dO p2 c2)) (0,0) _ N2 underlying158 rfl Tryz.iI ?_));refine(QK t1 t2 _ _ _).mono ?_;rintro e w9⟨rfl,jX⟩;clear oR gk;have G9:=aC (aC G2 (aQ _ _ _)) jX;go_wp2;go_ret;exact⟨bB He.out.symm,G9⟩
end Go.Proofs.YtcnhfffgbamonaaGreat
