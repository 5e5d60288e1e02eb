import Derived.Deep.MidRow
import Derived.Deep.WholeRow
import Derived.Deep.RegionWith
import Derived.Test.YtcnhfffgbamonabGreatZ05
set_option maxRecDepth 100000
set_option maxHeartbeats 6400000
namespace Go.Proofs.YtcnhfffgbamonabGreat
open Go.Proofs.Tryz
open Go.RowKit
theorem je.get{w:World}{base:Nat}{a:Option Addr}{n c:Nat}{os:List M.Op}(h:je w base (.slice a n c) os)(i:Nat)(o:M.Op)(hi:os[i]?=some o) :
  ∃g ao m cp,a=some ⟨g,0,none⟩/\g<w.heap.size/\base<=g/\gy w base (.slice ao m cp) o.bM/\w.rangeAt g (i*16) (aO o (.slice ao m cp)).toList:=by
 obtain⟨ps,h1,h2,h3⟩:=h;have aK:i<os.length:=by
  rcases cF i os.length with h' | h'
  ·exact h'
  ·simp[cX h'] at hi
 obtain⟨g,ha,hb,hn,hc⟩:=nZ h2 (by omega);subst h1;rw[dY] at hi;obtain⟨p,hp,rfl⟩:=Option.map_eq_some_iff.1 hi;obtain⟨ao,m,cp,pW⟩:=(h3 p (bV hp)).bT;have hI:=h3 p (bV hp);rw[pW] at hI;have cK:∀j,j<16->w.cell? ⟨g,i*16+j,none⟩=(aO p.1 p.2).toList[j]?:=by
  intro j hj;rw[hc _ (by simp at aK ⊢;omega)];exact lL (fun p:M.Op×Value=>(aO p.1 p.2).toList) 16 (fun a=>rfl) ps i j p hp hj
 have k0:w.cell? ⟨g,i*16+0,none⟩=some (.int .i64 p.1.af):=cK 0 (by omega);refine⟨g,ao,m,cp,ha,pY w _ k0,hb,hI,?_⟩;intro j v hv;have hj:j<16:=by
  rcases cF j 16 with h' | h'
  ·exact h'
  ·rw[cX (by simpa[aO] using h')] at hv;simp at hv
 rw[cK j hj,pW];exact hv
theorem aZ.get{w:World}{base:Nat}{a:Option Addr}{n c:Nat}{xs:List Int}(h:aZ w base (.slice a n c) xs)(i:Nat)(x:Int)(hi:xs[i]?=some x) :
  ∃g,a=some ⟨g,0,none⟩/\g<w.heap.size/\base<=g/\w.cell? ⟨g,i,none⟩=some (.int .i64 x):=by
 have aK:i<xs.length:=by
  rcases cF i xs.length with h' | h'
  ·exact h'
  ·simp[cX h'] at hi
 obtain⟨g,ha,hb,hn,hc⟩:=nZ h (by omega);have k:w.cell? ⟨g,i,none⟩=some (.int .i64 x):=by
  rw[hc i (by omega),dY,hi];rfl
 exact⟨g,ha,pY w _ k,hb,k⟩
theorem aZ.len{w:World}{base:Nat}{a:Option Addr}{n c:Nat}{xs:List Int}(h:aZ w base (.slice a n c) xs):n=xs.length:=by
 obtain⟨ao,c',e⟩:=gY h;injection e
theorem ahC{md:M.Md}{by_:List Int}{i n:Int}(h:M.m7 md n=false):M.nR md by_ i n=false:=by simp[M.nR,h]
theorem ahD{md:M.Md}{by_:List Int}{i n:Int}(h:(by_.length:Int)<=n):M.nR md by_ i n=false:=by
 unfold M.nR;rw[show decide (n<(by_.length:Int))=false from by simp;omega];simp
theorem ahE{md:M.Md}{by_:List Int}{i:Int}{k:Nat}{x:Int}(h:M.m7 md k=true)(hx:by_[k]?=some x):M.nR md by_ i k=decide (x<i):=by
 have hk:k<by_.length:=by
  rcases cF k by_.length with h' | h'
  ·exact h'
  ·simp[cX h'] at hx
 unfold M.nR;rw[h,ey,nU,hx];simp[hk]
theorem P1(m B:Nat)(md:M.Md)(a:Option Addr)(nb cb:Nat)(by_:List Int)(i n:Int)(w:World)(h:cN w m md)(hw:md.au.length<=255)(hI:aZ w B (.slice a nb cb) by_)(_hl:by_.length<=255) :
  Calls prog 164 #[.pointer (some ⟨m,0,none⟩),.slice a nb cb,.int .i64 i,.int .i64 n] w fun e w'=>e=.returned (.bool (M.nR md by_ i n))/\w'=w:=by
 have hn:=hI.len;subst hn
 cases hc:M.m7 md n with
 | false=>
  have He:=ae (ahC (by_:=by_) (i:=i) hc);go_enter func164,ntmps164;go_wp2_with fail;refine(Lv m md n w h hw).mono ?_;rintro e w1⟨rfl,rfl⟩;rw[hc];clear hc;go_wp2;go_ret;exact⟨bq He.out.symm,rfl⟩
 | true=>
  have h0:0<=n:=by
   rcases(show n<0\/0<=n from by omega) with h' | h'
   ·rw[PW (.inl h')] at hc;simp at hc
   ·exact h'
  obtain⟨k,rfl⟩:=fR h0;have Hc:=ae hc;clear hc;by_cases hk:k<by_.length
  ·obtain⟨x,hx⟩:∃x,by_[k]?=some x:=⟨_,aT hk⟩
   obtain⟨g,rfl,gN,-,d0⟩:=hI.get k x hx;have He:=ae (ahE (i:=i) Hc.out hx);clear hI hx;go_enter func164,ntmps164;go_wp2_with fail;refine(Lv m md k w h hw).mono ?_;rintro e w1⟨rfl,rfl⟩;rw[Hc.out];go_wp2;go_ret;exact⟨bq He.out.symm,rfl⟩
  ·have He:=ae (ahD (md:=md) (by_:=by_) (i:=i) (n:=k) (by omega))
   clear hI;go_enter func164,ntmps164;go_wp2_with fail;refine(Lv m md k w h hw).mono ?_;rintro e w1⟨rfl,rfl⟩;rw[Hc.out];go_wp2;go_ret;exact⟨bq He.out.symm,rfl⟩
theorem ahF{md:M.Md}{by_:List Int}{i:Int}{o:M.Op}(h:M.nR md by_ i o.a=false):M.m8 md by_ i o=false:=by simp[M.m8,h]
theorem ahG{md:M.Md}{by_:List Int}{i:Int}{o:M.Op}(h:M.nR md by_ i o.a=true)(h2:M.dr o.af=true):M.m8 md by_ i o=M.nR md by_ i o.b:=by simp[M.m8,h,h2]
theorem ahH{md:M.Md}{by_:List Int}{i:Int}{o:M.Op}(h:M.nR md by_ i o.a=true)(h2:M.dr o.af=false)(h3:M.cm o.af=false):M.m8 md by_ i o=true:=by simp[M.m8,h,h2,h3]
theorem ahI{md:M.Md}{by_:List Int}{i:Int}{o:M.Op}(h:M.nR md by_ i o.a=true)(h2:M.dr o.af=false)(h3:M.cm o.af=true):M.m8 md by_ i o=(M.jJ md o.aP 1&&M.jJ md o.bA 2):=by simp[M.m8,h,h2,h3]
theorem yo(o:M.Op)(sv:Value)(x:Bool)(w:World)(hx:M.cm o.af=x):Calls prog 97 #[.agg (aO o sv)] w fun e w'=>e=.returned (.bool x)/\w.grownBy w' none:=rl o.af _ _ _ _ _ _ _ _ _ _ _ _ _ _ _ x w hx
theorem Bz(o:M.Op)(sv:Value)(x:Bool)(w:World)(hx:M.dr o.af=x):Calls prog 98 #[.agg (aO o sv)] w fun e w'=>e=.returned (.bool x)/\w.grownBy w' none:=Ls o.af _ _ _ _ _ _ _ _ _ _ _ _ _ _ _ x w hx
theorem ahJ(m B:Nat)(md:M.Md)(a:Option Addr)(nb cb:Nat)(by_:List Int)(i:Int)(o:M.Op)(ao:Option Addr)(p c:Nat)(w:World)(h:cN w m md)(hw:md.au.length<=255)(hI:aZ w B (.slice a nb cb) by_)(hl:by_.length<=255) :
  Calls prog 129 #[.pointer (some ⟨m,0,none⟩),.slice a nb cb,.int .i64 i,.agg (aO o (.slice ao p c))] w fun e w'=>e=.returned (.bool (M.m8 md by_ i o))/\w.grownBy w' none:=by
 have aH:w.grownBy (w.alloc (.cells (aO o (.slice ao p c)) 93)) none:=aQ _ _ _;have kd:aj (w.alloc (.cells (aO o (.slice ao p c)) 93)) w.heap.size 93 (aO o (.slice ao p c)):=aj.bB w 93 _;have mF:=h.Z aH;have lM:=hI.Z aH;have nj:=ae kd;have v1:(aO o (.slice ao p c))[1]?=some (.int .i64 o.a):=rfl;clear h hI kd
 cases ha:M.nR md by_ i o.a with
 | false=>
  have He:=ae (ahF ha);have Ha:=ae ha;clear ha;go_enter func129,ntmps129;go_wp2_with fail;refine(P1 m B md a nb cb by_ i o.a _ mF hw lM hl).mono ?_;rintro e w2⟨rfl,rfl⟩;rw[Ha.out];go_wp2;go_ret;exact⟨bq He.out.symm,aH⟩
 | true=>
  have Ha:=ae ha;clear ha;go_enter func129,ntmps129;go_wp2_with fail;refine(P1 m B md a nb cb by_ i o.a _ mF hw lM hl).mono ?_;rintro e w2⟨rfl,P3⟩;rw[Ha.out,P3];clear P3;go_wp2_with (refine dj rfl 93 _ rfl w.heap.size rfl 93 (aO o (.slice ao p c)) (0,0) _ nj.out underlying93 rfl Tryz.db ?_)
  cases h2:M.dr o.af with
  | true=>
   refine(Bz o (.slice ao p c) true _ h2).mono ?_;rintro e w3⟨rfl,aU⟩;have He:=ae (ahG Ha.out h2);have iA:=nj.out.kept aU (by simp);have e2:w3.cell? ⟨w.heap.size,2,none⟩=some (.int .i64 o.b):=iA.cell 2;have vd:=mF.Z aU;have kY:=lM.Z aU;have jz:=aC aH aU;clear h2 iA aU mF lM aH v1;go_wp2_with fail;refine(P1 m B md a nb cb by_ i o.b _ vd hw kY hl).mono ?_;rintro e w4⟨rfl,LC⟩;rw[LC];clear LC;go_wp2;go_ret;exact⟨bq He.out.symm,jz⟩
  | false=>
   refine(Bz o (.slice ao p c) false _ h2).mono ?_;rintro e w3⟨rfl,aU⟩;have H2:=ae h2;have iA:=nj.out.kept aU (by simp);have vd:=mF.Z aU;have jz:=aC aH aU;have fZ:=ae iA;clear h2 iA aU mF lM aH v1;go_wp2_with (refine dj rfl 93 _ rfl w.heap.size rfl 93 (aO o (.slice ao p c)) (0,0) _ fZ.out underlying93 rfl Tryz.db ?_)
   cases h3:M.cm o.af with
   | false=>
    refine(yo o (.slice ao p c) false _ h3).mono ?_;rintro e w4⟨rfl,bm⟩;have He:=ae (ahH Ha.out H2.out h3);have sF:=aC jz bm;clear h3 bm jz vd;go_wp2;go_ret;exact⟨bq He.out.symm,sF⟩
   | true=>
    refine(yo o (.slice ao p c) true _ h3).mono ?_;rintro e w4⟨rfl,bm⟩;have He:=ae (ahI Ha.out H2.out h3);have sF:=aC jz bm;have ku:=fZ.out.kept bm (by simp);have G6:=vd.Z bm;have e3:w4.cell? ⟨w.heap.size,3,none⟩=some (.int .i64 o.aP):=ku.cell 3;have e4:w4.cell? ⟨w.heap.size,4,none⟩=some (.int .i64 o.bA):=ku.cell 4;clear h3 bm jz vd ku;go_wp2_with fail;refine(GX m md o.aP 1 _ G6 hw).mono ?_;rintro e w5⟨rfl,oa⟩;rw[oa];clear oa
    cases h5:M.jJ md o.aP 1 with
    | false=>
     have H5:=ae h5;clear h5;go_wp2;go_ret;exact⟨bq (by rw[He.out,H5.out];rfl),sF⟩
    | true=>
     have H5:=ae h5;clear h5;go_wp2_with fail;refine(GX m md o.bA 2 _ G6 hw).mono ?_;rintro e w6⟨rfl,V5⟩;rw[V5];clear V5;go_wp2;go_ret;exact⟨bq (by rw[He.out,H5.out];rfl),sF⟩
theorem ahK{md:M.Md}{k:Nat}{by_:List Int}{o:M.Op}(h:M.makersTo md k=some by_)(ho:md.ag[k]?=some o)(hk:M.jJ md o.to 3=false):M.makersTo md (k+1)=none:=by
 simp[M.makersTo,h,ho,hk]
theorem ahL{md:M.Md}{k:Nat}{by_:List Int}{o:M.Op}(h:M.makersTo md k=some by_)(ho:md.ag[k]?=some o)(hk:0<=by_.getD o.to.toNat 0):M.makersTo md (k+1)=none:=by
 simp only[M.makersTo,h,ho];rw[ay];rw[eG hk,Bool.or_true]
theorem ahM{md:M.Md}{k:Nat}{by_:List Int}{o:M.Op}(h:M.makersTo md k=some by_)(ho:md.ag[k]?=some o)(hk:M.jJ md o.to 3=true)(h2:by_.getD o.to.toNat 0<0):M.makersTo md (k+1)=some (by_.set o.to.toNat k):=by
 simp only[M.makersTo,h,ho];rw[ak];rw[hk,eD (by omega)];simp
theorem ahN{md:M.Md}{k:Nat}(h:M.makersTo md k=none)(j:Nat):M.makersTo md (k+j)=none:=by
 induction j with
 | zero=>exact h
 | succ j ih=>rw[<-Nat.add_assoc,M.makersTo,ih]
theorem V6{md:M.Md}{k:Nat}(hk:k+1<=md.ag.length)(h:M.makersTo md (k+1)=none):M.my md=none:=by
 obtain⟨j,hj⟩:=Nat.exists_eq_add_of_le hk;have e:=ahN h j;rw[<-hj] at e;simp[M.my,e]
theorem ahO{md:M.Md}{n q:Int}(h:M.jJ md n q=true):∃k:Nat,n=k/\k<md.au.length:=by
 rcases(show n<0\/0<=n from by omega) with h' | h'
 ·rw[Lu (.inl h')] at h;simp at h
 ·obtain⟨k,rfl⟩:=fR h'
  refine⟨k,rfl,?_⟩;rcases cF k md.au.length with h2|h2
  ·exact h2
  ·rw[Lu (.inr (by omega))] at h;simp at h
def vf(n k:Nat):Array Value:=((List.replicate k (-1:Int)++List.replicate (n-k) 0).map (Value.int .i64)).toArray
theorem ahP(n k:Nat)(h:k<n):(vf n k).setIfInBounds k (.int .i64 (-1))=vf n (k+1):=by
 have e:n-k=(n-(k+1))+1:=by omega
 unfold vf;rw[e,List.replicate_succ]
 apply Array.toList_inj.1
 rw[Array.toList_setIfInBounds];simp only[lH,List.map_cons];rw[List.set_append_right _ _ (by simp)];simp[List.replicate_succ']
theorem ahQ(n k j:Nat)(h:k<=n)(hj:j<n):∃x,(vf n k)[j]?=some (.int .i64 x):=by
 have hz:(vf n k).size=n:=by simp[vf];omega
 rw[Array.getElem?_eq_getElem (by omega)];unfold vf;rw[List.getElem_toArray,List.getElem_map];exact⟨_,rfl⟩
theorem ahR(l:List Int)(k:Nat)(x:Int):((l.map (Value.int .i64)).toArray).setIfInBounds k (.int .i64 x)=((l.set k x).map (Value.int .i64)).toArray:=by
 apply Array.toList_inj.1
 rw[Array.toList_setIfInBounds];simp[List.map_set]
theorem P4{l:List Int}{k:Nat}{x:Int}(h:l[k]?=some x):((l.map (Value.int .i64)).toArray)[k]?=some (.int .i64 x):=by simp[h]
def LD(ts:List M.Tn)(by_:List Int)(k:Nat):Prop:=∀j,j<k->((ts.map (·.af)).getD j 0==3&&decide (by_.getD j 0<0))=false
theorem ahS{ts:List M.Tn}{by_:List Int}(h:LD ts by_ ts.length):M.zH ts by_=true:=by
 unfold M.zH;rw[jg];intro j hj;rw[h j (List.mem_range.1 hj)];rfl
theorem ahT{ts:List M.Tn}{by_:List Int}{j:Nat}(hj:j<ts.length)(h:((ts.map (·.af)).getD j 0==3&&decide (by_.getD j 0<0))=true):M.zH ts by_=false:=by
 unfold M.zH;rw[List.all_eq_false];exact⟨j,List.mem_range.2 hj,by simp only[h];simp⟩
theorem V7{ts:List M.Tn}{by_:List Int}{k:Nat}(h:LD ts by_ k)(hk:((ts.map (·.af)).getD k 0==3&&decide (by_.getD k 0<0))=false):LD ts by_ (k+1):=by
 intro j hj;rcases cF j k with h' | h'
 ·exact h j h'
 ·obtain rfl:j=k:=by omega
  exact hk
theorem ahU(m:Nat)(md:M.Md)(w:World)(h:cN w m md)(hw:lK md) :
  Calls prog 128 #[.pointer (some ⟨m,0,none⟩)] w fun e w'=>w.grownBy w' none/\((M.my md=none/\e=.returned (.tuple #[.slice none 0 0,.bool false])) \/
   ∃by_ g,Hid (M.my md=some by_)/\by_.length<=255/\e=.returned (.tuple #[.slice (some ⟨g,0,none⟩) by_.length by_.length,.bool true])/\aZ w' w.heap.size (.slice (some ⟨g,0,none⟩) by_.length by_.length) by_):=by
 obtain⟨i0,hi,cQ,cR,cZ⟩:=info_parts Tryz.oH;have iq:=hw.nt;have j9:=hw.no;have hM:=h;obtain⟨a1,c1,a2,c2,a3,c3,hB,hT,hO,hU⟩:=h;have q0:w.cell? ⟨m,0,none⟩=some (.slice a1 md.au.length c1):=hB.cell 0;have q1:w.cell? ⟨m,1,none⟩=some (.slice a2 md.ag.length c2):=hB.cell 1;have pX:=hB.lt;clear hU;go_enter func128,ntmps128;go_wp2_with (at_make;refine pU _ rfl _ _ 32 rfl w.heap.size 3 i0 (.int .i64 0) 1 underlying32 hi cQ cR _ _ _ _ md.au.length rfl rfl rfl rfl ?c1 ?c2 ?c3 ?_)
 case c1=>rw[cZ];omega
 case c2=>unfold maxLen;omega
 case c3=>exact bj _
 intro w2 cB aM;have fA:=wR cB;have e0:(List.replicate md.au.length (Value.int .i64 0)).toArray=vf md.au.length 0:=by simp[vf]
 rw[e0] at fA;clear cB e0;go_wp2;go_loopw[18] (fun i wr=>∃k:Nat,k<=md.au.length/\i=.int .i64 k/\aj wr w.heap.size 3 (vf md.au.length k)/\w.grownBy wr none) (fun i _=>md.au.length-(intOf i).toNat)
 case atStart=>exact⟨0,bK _,rfl,fA,aM⟩
 case round=>
  obtain⟨k,hk,rfl,bU,aF⟩:=hrel;by_cases aK:k<md.au.length
  ·obtain⟨y,hy⟩:=ahQ md.au.length k k hk aK
   have hc:=bU.cell k;rw[hy] at hc;have hf:=bU.free k;have HB:=ae (bU.set k (.int .i64 (-1)));rw[ahP _ _ aK] at HB;have hgn:=dF aF (bD wr w.heap.size k (.int .i64 (-1))) (bj _);clear bU hy;go_wp2;go_roundw
   case rel=>exact⟨k+1,by omega,by go_num,HB.out,hgn⟩
   case measure=>simp[intOf];omega
  ·obtain rfl:k=md.au.length:=by omega
   have ez:vf md.au.length md.au.length=((List.replicate md.au.length (-1:Int)).map (Value.int .i64)).toArray:=by simp[vf]
   rw[ez] at bU;obtain⟨wo,rfl⟩:∃wo:World,wo=wr:=⟨_,rfl⟩;have q1o:wo.cell? ⟨m,1,none⟩=some (.slice a2 md.ag.length c2):=(hB.kept aF (by simp)).cell 1;clear ez fA aM;go_wp2;have G7:=ae hM;clear hM q0 q1 q1o;go_loopw[30] (fun i wr=>∃(k:Nat) (by_:List Int),k<=md.ag.length/\i=.int .i64 k/\M.makersTo md k=some by_/\by_.length=md.au.length/\aj wr w.heap.size 3 (by_.map (Value.int .i64)).toArray/\w.grownBy wr none) (fun i _=>md.ag.length-(intOf i).toNat)
   case atStart=>exact⟨0,_,bK _,rfl,rfl,by simp,bU,aF⟩
   case round=>
    clear bU aF;obtain⟨k,by_,hk,rfl,zR,dh,bU,aF⟩:=hrel;have yp:=ae zR;have wY:=ae dh;clear zR dh;by_cases aK:k<md.ag.length
    ·obtain⟨o,ho⟩:∃o,md.ag[k]?=some o:=⟨_,aT aK⟩
     obtain⟨g,ao,p,cp,rfl,gN,-,-,hR⟩:=(hO.Z aF).get k o ho;have Ho:=ae ho;have mF:cN (wr.alloc (.cells (aO o (.slice ao p cp)) 93)) m md:=(G7.out.Z aF).Z (aQ _ _ _);have aH:w.grownBy (wr.alloc (.cells (aO o (.slice ao p cp)) 93)) none:=aC aF (aQ _ _ _);have v5:(aO o (.slice ao p cp))[5]?=some (.int .i64 o.to):=rfl;have LF:=bU.lt;clear ho hT hO hB
     cases vg:M.jJ md o.to 3 with
     | false=>
      have Hn:=ae (V6 (by omega) (ahK yp.out Ho.out vg));have BB:=ae vg;clear vg;go_wp2_with (first|(refine wpList_load_mid rfl 93 _ rfl g (k*16) rfl (aO o (.slice ao p cp)).toList _ hR underlying93 rfl Tryz.db ?_)|(refine aaY rfl 93 _ _ rfl wr.heap.size (aO o (.slice ao p cp)) rfl rfl 93 (aR 0 0 0 0 0 0 0 0 false (.slice none 0 0) 0 0 0 0 0 0) (aj.bB wr 93 _) Tryz.db rfl (nY ..) ?_;rw[World.setRow_alloc_new]));refine(GX m md o.to 3 _ mF iq).mono ?_;rintro e w5⟨rfl,oa⟩;rw[oa,BB.out];clear oa;go_wp2
      go_ret2
      exact⟨aH,.inl ⟨Hn.out,rfl⟩⟩
     | true=>
      obtain⟨j,hj,ke⟩:=ahO vg;have ahX:j<by_.length:=by rw[wY.out];exact ke
      obtain⟨x,hx⟩:∃x,by_[j]?=some x:=⟨_,aT ahX⟩;have V8:by_.getD o.to.toNat 0=x:=by rw[hj,ey,nU,hx];rfl
      have kd:aj (wr.alloc (.cells (aO o (.slice ao p cp)) 93)) w.heap.size 3 (by_.map (Value.int .i64)).toArray:=bU.alloc _;have LG:(wr.alloc (.cells (aO o (.slice ao p cp)) 93)).cell? ⟨w.heap.size,j,none⟩=some (.int .i64 x):=by rw[kd.cell j];exact P4 hx
      have hcw:wr.cell? ⟨w.heap.size,j,none⟩=some (.int .i64 x):=by rw[bU.cell j];exact P4 hx
      have hfw:=bU.free j;have BB:=ae vg;have V9:=ae V8;have Hcj:=ae LG;have nj:=ae kd;have eJ:=ae bU;have Hj:=ae hj;rw[hj] at v5 BB;clear vg V8 LG kd bU hj hx;by_cases mC:0<=x
      ·have Hn:=ae (V6 (by omega) (ahL yp.out Ho.out (by rw[V9.out];exact mC)))
       go_wp2_with (first|(refine wpList_load_mid rfl 93 _ rfl g (k*16) rfl (aO o (.slice ao p cp)).toList _ hR underlying93 rfl Tryz.db ?_)|(refine aaY rfl 93 _ _ rfl wr.heap.size (aO o (.slice ao p cp)) rfl rfl 93 (aR 0 0 0 0 0 0 0 0 false (.slice none 0 0) 0 0 0 0 0 0) (aj.bB wr 93 _) Tryz.db rfl (nY ..) ?_;rw[World.setRow_alloc_new]));refine(GX m md j 3 _ mF iq).mono ?_;rintro e w5⟨rfl,oa⟩;rw[oa,BB.out];clear oa;go_wp2
       go_ret2
       exact⟨aH,.inl ⟨Hn.out,rfl⟩⟩
      ·have hy:=ahM yp.out Ho.out (by rw[Hj.out];exact BB.out) (by rw[V9.out];omega)
       rw[Hj.out,ey] at hy;have Hy:=ae hy;clear hy;have HS:=ae (eJ.out.set j (.int .i64 k));rw[ahR] at HS;have iB:w.grownBy ((wr.setCell ⟨w.heap.size,j,none⟩ (.int .i64 k)).alloc (.cells (aO o (.slice ao p cp)) 93)) none:=aC (dF aF (bD wr w.heap.size j (.int .i64 k)) (bj _)) (aQ _ _ _);go_wp2_with (first|(refine wpList_load_mid rfl 93 _ rfl g (k*16) rfl (aO o (.slice ao p cp)).toList _ hR underlying93 rfl Tryz.db ?_)|(refine aaY rfl 93 _ _ rfl wr.heap.size (aO o (.slice ao p cp)) rfl rfl 93 (aR 0 0 0 0 0 0 0 0 false (.slice none 0 0) 0 0 0 0 0 0) (aj.bB wr 93 _) Tryz.db rfl (nY ..) ?_;rw[World.setRow_alloc_new]));refine(GX m md j 3 _ mF iq).mono ?_;rintro e w5⟨rfl,oa⟩;rw[oa,BB.out];clear oa;have Hgs:=ae iB;clear iB;go_wp2;go_roundw
       case rel=>
        refine⟨k+1,by_.set j k,by omega,by go_num,Hy.out,by rw[kG];exact wY.out,?_,Hgs.out⟩;exact HS.out.alloc _
       case measure=>simp[intOf];omega
    ·obtain rfl:k=md.ag.length:=by omega
     have vc:wr.cell? ⟨m,0,none⟩=some (.slice a1 md.au.length c1):=(hB.kept aF (by simp)).cell 0;clear hB hO;go_wp2;clear vc;have jB:by_.length<=255:=by rw[wY.out];exact iq
     go_loopw[59] (fun i wr=>∃k:Nat,k<=md.au.length/\i=.int .i64 k/\LD md.au by_ k/\aj wr w.heap.size 3 (by_.map (Value.int .i64)).toArray/\w.grownBy wr none) (fun i _=>md.au.length-(intOf i).toNat)
     case atStart=>exact⟨0,bK _,rfl,fun j hj=>by omega,bU,aF⟩
     case round=>
      clear bU aF;obtain⟨k,DA,rfl,BD,bU,aF⟩:=hrel;by_cases rz:k<md.au.length
      ·obtain⟨t,ht⟩:∃t,md.au[k]?=some t:=⟨_,aT rz⟩
       obtain⟨g,ao,m',cp,rfl,-,-,-,d0,d1,d2,d3,d4,d5⟩:=(hT.Z aF).get k t ht;have gN:g<wr.heap.size:=pY wr _ d0;have LF:=bU.lt;have qH:k<by_.length:=by rw[wY.out];exact rz
       obtain⟨x,hx⟩:∃x,by_[k]?=some x:=⟨_,aT qH⟩;have hcw:wr.cell? ⟨w.heap.size,k,none⟩=some (.int .i64 x):=by rw[bU.cell k];exact P4 hx
       have ek:((md.au.map (·.af)).getD k 0==3&&decide (by_.getD k 0<0))=(t.af==3&&decide (x<0)):=by
        rw[PV ht,nU,hx];rfl
       have P6:=ae ek;have BE:=ae BD;have gn:w.grownBy (wr.alloc (.cells (t6 t.af t.h t.w t.c t.zero (.slice ao m' cp)) 106)) none:=aC aF (aQ _ _ _);have Wa:=ae (bU.alloc (.cells (t6 t.af t.h t.w t.c t.zero (.slice ao m' cp)) 106));have P7:=ae gn;clear ek BD hT ht hx bU gn;by_cases k3:t.af=3
       ·have E1:(t.af==3)=true:=by simp[k3]
        clear k3;by_cases mC:x<0
        ·have Hn:=ae (show M.my md=none by
          have e1:=ahT rz (by rw[P6.out,E1,eG mC];rfl);simp only[M.my,yp.out,e1];rfl)
         go_wp2
         go_ret2
         exact⟨P7.out,.inl ⟨Hn.out,rfl⟩⟩
        ·have fg:=ae (V7 BE.out (by rw[P6.out,E1,eD mC];rfl))
         go_wp2;go_roundw
         case rel=>exact⟨k+1,by omega,by go_num,fg.out,Wa.out,P7.out⟩
         case measure=>simp[intOf];omega
       ·have E1:(t.af==3)=false:=by simp[k3]
        have fg:=ae (V7 BE.out (by rw[P6.out,E1];rfl));clear k3;go_wp2;go_roundw
        case rel=>exact⟨k+1,by omega,by go_num,fg.out,Wa.out,P7.out⟩
        case measure=>simp[intOf];omega
      ·obtain rfl:k=md.au.length:=by omega
       have Hy:=ae (show M.my md=some by_ by simp only[M.my,yp.out,ahS BD];rfl);have HI:=ae (aZ.tM (bj _) rfl (by unfold maxLen;omega) bU:aZ wr w.heap.size (.slice (some ⟨w.heap.size,0,none⟩) by_.length by_.length) by_);clear BD hT bU;go_wp2
       go_ret2
       refine⟨aF,.inr ⟨by_,w.heap.size,Hy,jB,?_,HI.out⟩⟩;rw[wY.out]
       rfl
theorem ah2{md:M.Md}(h:M.my md=none):M.lF md=false:=by simp[M.lF,h]
def P8(md:M.Md)(by_:List Int)(k:Nat):Prop:=∀j o,j<k->md.ag[j]?=some o->M.m8 md by_ j o=true
def P9(md:M.Md)(k:Nat):Prop:=∀j x,j<k->md.aJ[j]?=some x->M.m7 md x=true
theorem ah3{md:M.Md}{by_:List Int}{k:Nat}{o:M.Op}(hm:M.my md=some by_)(ho:md.ag[k]?=some o)(h:M.m8 md by_ k o=false):M.lF md=false:=by
 have hk:k<md.ag.length:=by
  rcases cF k md.ag.length with h' | h'
  ·exact h'
  ·simp[cX h'] at ho
 simp only[M.lF,hm];rw[Bool.and_eq_false_iff]
 left
 rw[List.all_eq_false];exact⟨k,List.mem_range.2 hk,by simp only[ho,h];simp⟩
theorem ah4{md:M.Md}{by_:List Int}{k:Nat}{x:Int}(hm:M.my md=some by_)(ho:md.aJ[k]?=some x)(h:M.m7 md x=false):M.lF md=false:=by
 simp only[M.lF,hm];rw[Bool.and_eq_false_iff]
 right
 rw[List.all_eq_false];exact⟨x,bV ho,by simp[h]⟩
theorem ah5{md:M.Md}{by_:List Int}(hm:M.my md=some by_)(h1:P8 md by_ md.ag.length)(h2:P9 md md.aJ.length):M.lF md=true:=by
 simp only[M.lF,hm];rw[fh]
 constructor
 ·rw[jg]
  intro j hj;have rA:=List.mem_range.1 hj;have ho:md.ag[j]?=some md.ag[j]:=aT rA;simp only[ho];exact h1 j _ rA ho
 ·rw[jg]
  intro x hx;obtain⟨j,hj,e⟩:=List.mem_iff_getElem.1 hx;exact h2 j x hj (by rw[aT hj,e])
theorem ah6(m:Nat)(md:M.Md)(w:World)(h:cN w m md)(hw:lK md) :
  Calls prog 89 #[.pointer (some ⟨m,0,none⟩)] w fun e w'=>e=.returned (.bool (M.lF md))/\w.grownBy w' none:=by
 have iq:=hw.nt;have j9:=hw.no;have By:=hw.nu;have hM:=h;have hW:=ae hw;clear hw;go_enter func89,ntmps89;go_wp2_with fail;refine(ahU m md w h hW.out).mono ?_;rintro e w1⟨aH,⟨wZ,rfl⟩|⟨by_,gb,zR,dh,rfl,lM⟩⟩
 ·have He:=ae (ah2 wZ)
  clear wZ;go_wp2;go_ret;exact⟨bq He.out.symm,aH⟩
 ·obtain⟨a1,c1,a2,c2,a3,c3,hB,hT,hO,hU⟩:=h
  have q1:w1.cell? ⟨m,1,none⟩=some (.slice a2 md.ag.length c2):=(hB.kept aH (by simp)).cell 1;have HM:=ae hM;clear hT hM;go_wp2;clear q1;go_loopw[21] (fun i wr=>∃k:Nat,k<=md.ag.length/\i=.int .i64 k/\P8 md by_ k/\aZ wr w.heap.size (.slice (some ⟨gb,0,none⟩) by_.length by_.length) by_/\w.grownBy wr none) (fun i _=>md.ag.length-(intOf i).toNat)
  case atStart=>exact⟨0,bK _,rfl,fun j o hj=>by omega,lM,aH⟩
  case round=>
   clear lM aH;obtain⟨k,hk,rfl,DB,Qa,aF⟩:=hrel;by_cases aK:k<md.ag.length
   ·obtain⟨o,ho⟩:∃o,md.ag[k]?=some o:=⟨_,aT aK⟩
    obtain⟨g,ao,p,cp,rfl,gN,-,-,hR⟩:=(hO.Z aF).get k o ho;have Ho:=ae ho;have mF:cN (wr.alloc (.cells (aO o (.slice ao p cp)) 93)) m md:=(HM.out.Z aF).Z (aQ _ _ _);have aH:w.grownBy (wr.alloc (.cells (aO o (.slice ao p cp)) 93)) none:=aC aF (aQ _ _ _);have hIn:=Qa.Z (aQ wr (.cells (aO o (.slice ao p cp)) 93) none);have HB:=ae (aj.bB wr 93 (aO o (.slice ao p cp)));have Qb:=ae DB;clear ho hO hB hU Qa DB;go_wp2_with (first|(refine wpList_load_mid rfl 93 _ rfl g (k*16) rfl (aO o (.slice ao p cp)).toList _ hR underlying93 rfl Tryz.db ?_)|(refine aaY rfl 93 _ _ rfl wr.heap.size (aO o (.slice ao p cp)) rfl rfl 93 (aR 0 0 0 0 0 0 0 0 false (.slice none 0 0) 0 0 0 0 0 0) (aj.bB wr 93 _) Tryz.db rfl (nY ..) ?_;rw[World.setRow_alloc_new])|(refine dj rfl 93 _ rfl wr.heap.size rfl 93 (aO o (.slice ao p cp)) (0,0) _ HB.out underlying93 rfl Tryz.db ?_));refine(ahJ m w.heap.size md _ _ _ by_ k o ao p cp _ mF iq hIn dh).mono ?_;rintro e w3⟨rfl,aU⟩;have jz:=aC aH aU;have kY:=hIn.Z aU;clear hIn aU aH mF hR
    cases hr:M.m8 md by_ k o with
    | false=>
     have He:=ae (ah3 zR.out Ho.out hr);clear hr;go_wp2;go_ret;exact⟨bq He.out.symm,jz⟩
    | true=>
     have fg:=ae (show P8 md by_ (k+1) from fun j o' hj iK=>by
      rcases cF j k with h' | h'
      ·exact Qb.out j o' h' iK
      ·obtain rfl:j=k:=by omega
       rw[Ho.out] at iK;injection iK with e';rw[<-e'];exact hr)
     clear hr;go_wp2;go_roundw
     case rel=>exact⟨k+1,by omega,by go_num,fg.out,kY,jz⟩
     case measure=>simp[intOf];omega
   ·obtain rfl:k=md.ag.length:=by omega
    have q2:wr.cell? ⟨m,2,none⟩=some (.slice a3 md.aJ.length c3):=(hB.kept aF (by simp)).cell 2;have Qb:=ae DB;clear hB hO DB Qa;go_wp2;clear q2;go_loopw[38] (fun i wr=>∃k:Nat,k<=md.aJ.length/\i=.int .i64 k/\P9 md k/\w.grownBy wr none) (fun i _=>md.aJ.length-(intOf i).toNat)
    case atStart=>exact⟨0,bK _,rfl,fun j o hj=>by omega,aF⟩
    case round=>
     clear aF;obtain⟨k,DA,rfl,Wb,aF⟩:=hrel;have Wc:=ae Wb;clear Wb;by_cases rz:k<md.aJ.length
     ·obtain⟨x,hx⟩:∃x,md.aJ[k]?=some x:=⟨_,aT rz⟩
      obtain⟨g,rfl,gN,-,d0⟩:=(hU.Z aF).get k x hx;have hMr:=HM.out.Z aF;have Hx:=ae hx;clear hU hx;go_wp2_with fail;refine(Lv m md x wr hMr iq).mono ?_;rintro e w5⟨rfl,oa⟩;rw[oa];clear oa
      cases hr:M.m7 md x with
      | false=>
       have He:=ae (ah4 zR.out Hx.out hr);clear hr;go_wp2;go_ret;exact⟨bq He.out.symm,aF⟩
      | true=>
       have fg:=ae (show P9 md (k+1) from fun j o' hj iK=>by
        rcases cF j k with h' | h'
        ·exact Wc.out j o' h' iK
        ·obtain rfl:j=k:=by omega
         rw[Hx.out] at iK;injection iK with e';rw[<-e'];exact hr)
       clear hr;go_wp2;go_roundw
       case rel=>exact⟨k+1,by omega,by go_num,fg.out,aF⟩
       case measure=>simp[intOf];omega
     ·obtain rfl:k=md.aJ.length:=by omega
      have He:=ae (ah5 zR.out Qb.out Wc.out);clear hU;go_wp2;go_ret;exact⟨bq He.out.symm,aF⟩
theorem Wd(t:M.Tn)(dv:Value):(bg t dv)[0]?=some (.int .i64 t.af):=rfl
theorem yq(t:M.Tn)(dv:Value):(bg t dv)[1]?=some (.int .i64 t.h):=rfl
theorem zS(t:M.Tn)(dv:Value):(bg t dv)[2]?=some (.int .i64 t.w):=rfl
theorem zT(t:M.Tn)(dv:Value):(bg t dv)[3]?=some (.int .i64 t.c):=rfl
theorem We(t:M.Tn)(dv:Value):(bg t dv)[4]?=some (.int .i64 t.zero):=rfl
theorem Qc(a z:M.Tn)(da dz:Value)(w:World) :
  Calls prog 167 #[.agg (bg a da),.agg (bg z dz)] w fun e w'=>e=.returned (.bool (M.kV a z))/\w.grownBy w' none:=by
 have a1:=yq a da;have a2:=zS a da;have a3:=zT a da;have z1:=yq z dz;have z2:=zS z dz;have z3:=zT z dz
 cases h1:(a.h==z.h) with
 | false=>
  have He:=ae (show M.kV a z=false by simp only[M.kV,h1];rfl);go_enter func167,ntmps167;go_wp2;go_ret;exact⟨bq He.out.symm,nT _ _ _ _⟩
 | true=>
  cases h2:(a.w==z.w) with
  | false=>
   have He:=ae (show M.kV a z=false by simp only[M.kV,h1,h2];rfl);go_enter func167,ntmps167;go_wp2;go_ret;exact⟨bq He.out.symm,nT _ _ _ _⟩
  | true=>
   have He:=ae (show M.kV a z=(a.c==z.c) by simp only[M.kV,h1,h2];rfl);go_enter func167,ntmps167;go_wp2;go_ret;exact⟨bq He.out.symm,nT _ _ _ _⟩
theorem Qd(a:M.Tn)(da:Value)(n:Int)(w:World) :
  Calls prog 175 #[.agg (bg a da),.int .i64 n] w fun e w'=>e=.returned (.bool (M.isRow a n))/\w.grownBy w' none:=by
 have a1:=yq a da;have a2:=zS a da;have a3:=zT a da
 cases h1:(a.h==1) with
 | false=>
  have He:=ae (show M.isRow a n=false by simp only[M.isRow,h1];rfl);go_enter func175,ntmps175;go_wp2;go_ret;exact⟨bq He.out.symm,aQ _ _ _⟩
 | true=>
  cases h2:(a.w==1) with
  | false=>
   have He:=ae (show M.isRow a n=false by simp only[M.isRow,h1,h2];rfl);go_enter func175,ntmps175;go_wp2;go_ret;exact⟨bq He.out.symm,aQ _ _ _⟩
  | true=>
   have He:=ae (show M.isRow a n=(a.c==n) by simp only[M.isRow,h1,h2];rfl);go_enter func175,ntmps175;go_wp2;go_ret;exact⟨bq He.out.symm,aQ _ _ _⟩
theorem LH(n l s:Int)(same:Bool)(w:World)(_n0:0<=n)(_n1:n<=255)(_l0:0<=l)(_l1:l<=255)(_s0:0<=s)(_s1:s<=255) :
  Calls prog 174 #[.int .i64 n,.int .i64 l,.int .i64 s,.bool same] w fun e w'=>e=.returned (.int .i64 (M.dP n l s same))/\w'=w:=by
 by_cases h1:s<1
 ·have He:=ae (show M.dP n l s same=0 by unfold M.dP;rw[ay (.inl h1)])
  go_enter func174,ntmps174;go_wp2;go_ret;exact⟨cE He.out.symm,rfl⟩
 ·by_cases h2:n<1
  ·have He:=ae (show M.dP n l s same=0 by unfold M.dP;rw[ay (.inr h2)])
   go_enter func174,ntmps174;go_wp2;go_ret;exact⟨cE He.out.symm,rfl⟩
  ·cases same with
   | true=>
    have He:=ae (show M.dP n l s true=(l+s-1)/s by unfold M.dP;rw[ak (by omega),ay rfl]);go_enter func174,ntmps174;go_wp2;go_ret;exact⟨cE He.out.symm,rfl⟩
   | false=>
    by_cases h3:l<n
    ·have He:=ae (show M.dP n l s false=0 by unfold M.dP;rw[ak (by omega),ak (by simp),ay h3])
     go_enter func174,ntmps174;go_wp2;go_ret;exact⟨cE He.out.symm,rfl⟩
    ·have He:=ae (show M.dP n l s false=(l-n)/s+1 by unfold M.dP;rw[ak (by omega),ak (by simp),ak h3])
     have hq:0<=(l-n)/s/\(l-n)/s<=255:=by
      have h0:0<=(l-n)/s:=Int.ediv_nonneg (by omega) (by omega);have h1:(l-n)/s<=l-n:=Int.ediv_le_self _ (by omega);exact⟨h0,by omega⟩
     obtain⟨Wf,hq1⟩:=hq;go_enter func174,ntmps174;go_wp2;go_ret;exact⟨cE He.out.symm,rfl⟩
theorem lY(o:M.Op)(sv:Value):(aO o sv)[0]?=some (.int .i64 o.af):=rfl
theorem xb(o:M.Op)(sv:Value):(aO o sv)[1]?=some (.int .i64 o.a):=rfl
theorem ov6(o:M.Op)(sv:Value):(aO o sv)[6]?=some (.int .i64 o.size):=rfl
theorem Wg(o:M.Op)(sv:Value):(aO o sv)[7]?=some (.int .i64 o.aE):=rfl
theorem ov8(o:M.Op)(sv:Value):(aO o sv)[8]?=some (.bool o.same):=rfl
theorem ov9(o:M.Op)(sv:Value):(aO o sv)[9]?=some sv:=rfl
theorem aic(o:M.Op)(sv:Value):(aO o sv)[10]?=some (.int .i64 o.lo):=rfl
theorem aid(o:M.Op)(sv:Value):(aO o sv)[11]?=some (.int .i64 o.hi):=rfl
theorem G8(w:World)(o o' o2:Obj)(row:Option Nat):w.grownBy (((w.alloc o).alloc o').alloc o2) row:=aC (nT w o o' row) (aQ _ _ _)
theorem Wh(o:M.Op)(a z:M.Tn)(sv da dz:Value)(w:World)(ho:lW o)(ha:dW a) :
  Calls prog 168 #[.agg (aO o sv),.agg (bg a da),.agg (bg z dz)] w fun e w'=>e=.returned (.bool (M.ri o a z))/\w.grownBy w' none:=by
 have o6:=ov6 o sv;have o7:=Wg o sv;have a1:=yq a da;have a2:=zS a da;have a3:=zT a da;have z1:=yq z dz;have z2:=zS z dz;have z3:=zT z dz;go_enter func168,ntmps168;go_wp2_with fail;refine(LH o.size a.h o.aE false _ ho.size.1 ho.size.2 ha.h0 ha.h1 ho.aE.1 ho.aE.2).mono ?_;rintro e w1⟨rfl,eK⟩;rw[eK];clear eK;go_wp2_with fail;refine(LH o.size a.w o.aE false _ ho.size.1 ho.size.2 ha.w0 ha.w1 ho.aE.1 ho.aE.2).mono ?_;rintro e w1⟨rfl,eK⟩;rw[eK];clear eK
 cases h1:(z.h==M.dP o.size a.h o.aE false) with
 | false=>
  have He:=ae (show M.ri o a z=false by simp only[M.ri,h1];rfl);go_wp2;go_ret;exact⟨bq He.out.symm,G8 _ _ _ _ _⟩
 | true=>
  cases h2:(z.w==M.dP o.size a.w o.aE false) with
  | false=>
   have He:=ae (show M.ri o a z=false by simp only[M.ri,h1,h2];rfl);go_wp2;go_ret;exact⟨bq He.out.symm,G8 _ _ _ _ _⟩
  | true=>
   have He:=ae (show M.ri o a z=(z.c==a.c) by simp only[M.ri,h1,h2];rfl);go_wp2;go_ret;exact⟨bq He.out.symm,G8 _ _ _ _ _⟩
theorem Wi(t:M.Tn)(dv:Value):(bg t dv)[5]?=some dv:=rfl
theorem Qe(w:World)(o1 o2 o3 o4 o5:Obj)(row:Option Nat):w.grownBy (((((w.alloc o1).alloc o2).alloc o3).alloc o4).alloc o5) row:=aC (G8 w o1 o2 o3 row) (nT _ _ _ _)
theorem aie(w:World)(T1 T2 T3 T4 T5:TypeId)(A B C D E:Array Value):aj (((((w.alloc (.cells A T1)).alloc (.cells B T2)).alloc (.cells C T3)).alloc (.cells D T4)).alloc (.cells E T5)) w.heap.size T1 A /\
  aj (((((w.alloc (.cells A T1)).alloc (.cells B T2)).alloc (.cells C T3)).alloc (.cells D T4)).alloc (.cells E T5)) (w.heap.size+1) T2 B /\
  aj (((((w.alloc (.cells A T1)).alloc (.cells B T2)).alloc (.cells C T3)).alloc (.cells D T4)).alloc (.cells E T5)) (w.heap.size+1+1) T3 C /\
  aj (((((w.alloc (.cells A T1)).alloc (.cells B T2)).alloc (.cells C T3)).alloc (.cells D T4)).alloc (.cells E T5)) (w.heap.size+1+1+1) T4 D /\
  aj (((((w.alloc (.cells A T1)).alloc (.cells B T2)).alloc (.cells C T3)).alloc (.cells D T4)).alloc (.cells E T5)) (w.heap.size+1+1+1+1) T5 E:=by
 have h1:=aj.bB w T1 A;have h2:=aj.bB (w.alloc (.cells A T1)) T2 B;have h3:=aj.bB ((w.alloc (.cells A T1)).alloc (.cells B T2)) T3 C;have h4:=aj.bB (((w.alloc (.cells A T1)).alloc (.cells B T2)).alloc (.cells C T3)) T4 D;have h5:=aj.bB ((((w.alloc (.cells A T1)).alloc (.cells B T2)).alloc (.cells C T3)).alloc (.cells D T4)) T5 E;simp only[World.size_alloc] at h2 h3 h4 h5;exact⟨(((h1.alloc _).alloc _).alloc _).alloc _,((h2.alloc _).alloc _).alloc _,(h3.alloc _).alloc _,h4.alloc _,h5⟩
theorem aif{o:M.Op}{a w b z:M.Tn}(h:(z.h != M.dP w.h a.h o.aE o.same)=true):M.pS o a w b z=false:=by
 unfold M.pS;rw[ay (.inl (by simpa using h))]
theorem aih{o:M.Op}{a w b z:M.Tn}(h:(z.w != M.dP w.w a.w o.aE o.same)=true):M.pS o a w b z=false:=by
 unfold M.pS;rw[ay (.inr (.inl (by simpa using h)))]
theorem aii{o:M.Op}{a w b z:M.Tn}(h:M.isRow b z.c=false):M.pS o a w b z=false:=by
 unfold M.pS;rw[ay (.inr (.inr h))]
theorem aij{o:M.Op}{a w b z:M.Tn}(h1:(z.h != M.dP w.h a.h o.aE o.same)=false)(h2:(z.w != M.dP w.w a.w o.aE o.same)=false)(h3:M.isRow b z.c=true):M.pS o a w b z=if o.af=2 then w.c==a.c&&z.c==a.c else w.c==a.c*z.c:=by
 unfold M.pS;rw[ak];simp at h1 h2;simp[h1,h2,h3]
theorem Wj(o:M.Op)(a we b z:M.Tn)(sv da dw dz:Value)(ab:Option Addr)(nb cb:Nat)(w:World)(ho:lW o)(ha:dW a)(hw:dW we)(hz:dW z) :
  Calls prog 165 #[.agg (aO o sv),.agg (bg a da),.agg (bg we dw),.agg (bg b (.slice ab nb cb)),.agg (bg z dz)] w fun e w'=>e=.returned (.bool (M.pS o a we b z))/\w.grownBy w' none:=by
 have o0:=lY o sv;have o7:=Wg o sv;have o8:=ov8 o sv;have a1:=yq a da;have a2:=zS a da;have a3:=zT a da;have w1:=yq we dw;have w2:=zS we dw;have w3:=zT we dw;have z1:=yq z dz;have z2:=zS z dz;have z3:=zT z dz;have b0:=Wd b (.slice ab nb cb);have b1:=yq b (.slice ab nb cb);have b2:=zS b (.slice ab nb cb);have b3:=zT b (.slice ab nb cb);have b4:=We b (.slice ab nb cb);have b5:=Wi b (.slice ab nb cb);go_enter func165,ntmps165;go_wp2_with fail;refine(LH we.h a.h o.aE o.same _ hw.h0 hw.h1 ha.h0 ha.h1 ho.aE.1 ho.aE.2).mono ?_;rintro e w1⟨rfl,eK⟩;rw[eK];clear eK;go_wp2_with fail;refine(LH we.w a.w o.aE o.same _ hw.w0 hw.w1 ha.w0 ha.w1 ho.aE.1 ho.aE.2).mono ?_;rintro e w1⟨rfl,eK⟩;rw[eK];clear eK
 cases h1:(z.h != M.dP we.h a.h o.aE o.same) with
 | true=>
  have He:=ae (aif (b:=b) h1);go_wp2;go_ret;exact⟨bq He.out.symm,Qe _ _ _ _ _ _ _⟩
 | false=>
  cases h2:(z.w != M.dP we.w a.w o.aE o.same) with
  | true=>
   have He:=ae (aih (b:=b) h2);go_wp2;go_ret;exact⟨bq He.out.symm,Qe _ _ _ _ _ _ _⟩
  | false=>
   have E2:=aie w 93 106 106 106 106 (aO o sv) (bg a da) (bg we dw) (bg b (.slice ab nb cb)) (bg z dz);have BF:=ae E2;clear E2;go_wp2_with fail;refine(Qd b (.slice ab nb cb) z.c _).mono ?_;rintro e w6⟨rfl,fD⟩;have yj:=aC (Qe w _ _ _ _ _ _) fD;obtain⟨k1,k2,k3,-,k5⟩:=BF.out;have c0:w6.cell? ⟨w.heap.size,0,none⟩=some (.int .i64 o.af):=(k1.kept fD (by simp)).cell 0;have c1:w6.cell? ⟨w.heap.size+1,3,none⟩=some (.int .i64 a.c):=(k2.kept fD (by simp)).cell 3;have c2:w6.cell? ⟨w.heap.size+1+1,3,none⟩=some (.int .i64 we.c):=(k3.kept fD (by simp)).cell 3;have c4:w6.cell? ⟨w.heap.size+1+1+1+1,3,none⟩=some (.int .i64 z.c):=(k5.kept fD (by simp)).cell 3;clear k1 k2 k3 k5 fD o0 o7 o8 a1 a2 a3 w2 w3 z1 z2 z3 b0 b1 b2 b3 b4 b5
   cases h3:M.isRow b z.c with
   | false=>
    have He:=ae (aii (o:=o) (a:=a) (w:=we) h3);clear h3 h1 h2 c0 c1 c2 c4;go_wp2;go_ret;exact⟨bq He.out.symm,yj⟩
   | true=>
    have He:=ae (aij h1 h2 h3);clear h3 h1 h2;by_cases hk:o.af=2
    ·have rB:(o.af==2)=true:=by simp[hk]
     have kx:=He.out;rw[ay hk] at kx;have xd:=ae kx;clear kx He hk
     cases h4:(we.c==a.c) with
     | false=>
      go_wp2;go_ret;exact⟨bq (by rw[xd.out,h4];rfl),yj⟩
     | true=>
      go_wp2;go_ret;exact⟨bq (by rw[xd.out,h4];rfl),yj⟩
    ·have rB:(o.af==2)=false:=by simp[hk]
     have kx:=He.out;rw[ak hk] at kx;have xd:=ae kx;clear kx He hk;have p0:0<=a.c*z.c:=kX ha.c0 hz.c0;have p1:a.c*z.c<=255*255:=Int.mul_le_mul ha.c1 hz.c1 hz.c0 (by omega);go_wp2;go_ret;exact⟨bq xd.out.symm,yj⟩
theorem aik(w:World)(T1 T2 T3 T4:TypeId)(A B C D:Array Value):aj ((((w.alloc (.cells A T1)).alloc (.cells B T2)).alloc (.cells C T3)).alloc (.cells D T4)) w.heap.size T1 A /\
  aj ((((w.alloc (.cells A T1)).alloc (.cells B T2)).alloc (.cells C T3)).alloc (.cells D T4)) (w.heap.size+1) T2 B /\
  aj ((((w.alloc (.cells A T1)).alloc (.cells B T2)).alloc (.cells C T3)).alloc (.cells D T4)) (w.heap.size+1+1) T3 C /\
  aj ((((w.alloc (.cells A T1)).alloc (.cells B T2)).alloc (.cells C T3)).alloc (.cells D T4)) (w.heap.size+1+1+1) T4 D:=by
 have h1:=aj.bB w T1 A;have h2:=aj.bB (w.alloc (.cells A T1)) T2 B;have h3:=aj.bB ((w.alloc (.cells A T1)).alloc (.cells B T2)) T3 C;have h4:=aj.bB (((w.alloc (.cells A T1)).alloc (.cells B T2)).alloc (.cells C T3)) T4 D;simp only[World.size_alloc] at h2 h3 h4;exact⟨((h1.alloc _).alloc _).alloc _,(h2.alloc _).alloc _,h3.alloc _,h4⟩
theorem ail(w:World)(o1 o2 o3 o4:Obj)(row:Option Nat):w.grownBy ((((w.alloc o1).alloc o2).alloc o3).alloc o4) row:=aC (nT w o1 o2 row) (nT _ _ _ _)
theorem LI(t:M.Tn)(dv:Value)(W:World)(h:dW t):Calls prog 67 #[.agg (bg t dv)] W fun e W'=>e=.returned (.int .i64 (M.cellsOf t))/\W.grownBy W' none:=
 Lm t.af t.h t.w t.c t.zero dv W h.h0 h.h1 h.w0 h.w1 h.c0 h.c1
theorem aim(a we b z:M.Tn)(aa:Option Addr)(na ca:Nat)(dw dz:Value)(ab:Option Addr)(nb cb:Nat)(w:World)(ha:dW a) :
  Calls prog 166 #[.agg (bg a (.slice aa na ca)),.agg (bg we dw),.agg (bg b (.slice ab nb cb)),.agg (bg z dz)] w fun e w'=>e=.returned (.bool (M.qz a we b z))/\w.grownBy w' none:=by
 have BF:=ae (aik w 106 106 106 106 (bg a (.slice aa na ca)) (bg we dw) (bg b (.slice ab nb cb)) (bg z dz));have g0:=ail w (.cells (bg a (.slice aa na ca)) 106) (.cells (bg we dw) 106) (.cells (bg b (.slice ab nb cb)) 106) (.cells (bg z dz) 106) none;have w1:=yq we dw;go_enter func166,ntmps166;go_wp2_with (refine dj rfl 106 _ rfl (w.heap.size+1+1+1) rfl 106 (bg z dz) (0,0) _ BF.out.2.2.2 underlying106 rfl Tryz.iG ?_);refine(Qd z dz we.h _).mono ?_;rintro e w5⟨rfl,cJ⟩;have Dt:=aC g0 cJ;obtain⟨k1,k2,k3,k4⟩:=BF.out;have j1:=k1.kept cJ (by simp);have j2:=k2.kept cJ (by simp);have j3:=k3.kept cJ (by simp);have HJ:=ae (And.intro j1 j2);obtain⟨d0,d1,d2,d3,d4,d5⟩:=mD (k:=b.af) (h:=b.h) (v:=b.w) (c:=b.c) (z:=b.zero) (dv:=.slice ab nb cb) j3;have e1:w5.cell? ⟨w.heap.size+1,1,none⟩=some (.int .i64 we.h):=j2.cell 1;clear k1 k2 k3 k4 cJ g0 w1 j1 j2 j3 BF
 cases h1:M.isRow z we.h with
 | false=>
  have He:=ae (show M.qz a we b z=false by simp only[M.qz,h1];rfl);clear h1;go_wp2;go_ret;exact⟨bq He.out.symm,Dt⟩
 | true=>
  have H1:=ae h1;clear h1;go_wp2_with fail;refine(Qd b (.slice ab nb cb) we.h _).mono ?_;rintro e w6⟨rfl,fD⟩;have yj:=aC Dt fD;obtain⟨j1,j2⟩:=HJ.out;have l1:=j1.kept fD (by simp);have l2:=j2.kept fD (by simp);have HL:=ae (And.intro l1 l2);clear d0 d1 d2 d3 d4 d5 e1 j1 j2 HJ fD Dt
  cases h2:M.isRow b we.h with
  | false=>
   have He:=ae (show M.qz a we b z=false by simp only[M.qz,H1.out,h2];rfl);clear h2 l1 l2;go_wp2;go_ret;exact⟨bq He.out.symm,yj⟩
  | true=>
   have H2:=ae h2;clear h2;have e2:w6.cell? ⟨w.heap.size+1,2,none⟩=some (.int .i64 we.w):=l2.cell 2;have e3:w6.cell? ⟨w.heap.size+1,3,none⟩=some (.int .i64 we.c):=l2.cell 3;obtain⟨d0,d1,d2,d3,d4,d5⟩:=mD (k:=a.af) (h:=a.h) (v:=a.w) (c:=a.c) (z:=a.zero) (dv:=.slice aa na ca) l1;clear l1 l2
   cases h3:(we.w==1) with
   | false=>
    have He:=ae (show M.qz a we b z=false by simp only[M.qz,H1.out,H2.out,h3];rfl);go_wp2;go_quiet (fail);go_wp2;go_ret;exact⟨bq He.out.symm,aC yj (bF _ _ _)⟩
   | true=>
    have He:=ae (show M.qz a we b z=(we.c==M.cellsOf a) by simp only[M.qz,H1.out,H2.out,h3];rfl);go_wp2
    go_region_with (go_at_call 67;refine(LI a (.slice aa na ca) _ ha).mono ?_;rintro e w7⟨rfl,dJ⟩;have f3:w7.cell? ⟨w.heap.size+1,3,none⟩=some (.int .i64 we.c):=(aj.kept (aj.drew HL.out.2) dJ (by simp)).cell 3)
    all_goals (go_wp2;go_ret;exact⟨bq He.out.symm,aC (aC yj (gH _ _)) (by assumption)⟩)
theorem jT{md:M.Md}(h:lK md)(n:Int):dW (M.aq md n):=by
 unfold M.aq
 split
 ·exact⟨by decide,by decide,by decide,by decide,by decide,by decide,by decide,by decide,by decide,by decide⟩
 ·rename_i hn
  have hl:n.toNat<md.au.length:=by omega
  have e:md.au.getD n.toNat M.uY=md.au[n.toNat]:=by
   rw[nU,aT hl];rfl
  rw[e];exact h.ts _ (List.getElem_mem hl)
theorem ain(m:Nat)(md:M.Md)(o:M.Op)(ao:Option Addr)(p c:Nat)(w:World)(h:cN w m md)(hw:lK md)(_ho:lW o)(hk:o.af=0) :
  Calls prog 131 #[.pointer (some ⟨m,0,none⟩),.agg (aO o (.slice ao p c))] w fun e w'=>e=.returned (.bool (M.bT md o))/\w.grownBy w' none:=by
 have v0:=lY o (.slice ao p c);have v1:=xb o (.slice ao p c);rw[hk] at v0;have Hk:=ae hk;clear hk;have N0:aj (w.alloc (.cells (aO o (.slice ao p c)) 93)) w.heap.size 93 (aO o (.slice ao p c)):=aj.bB _ _ _;have gO:w.grownBy (w.alloc (.cells (aO o (.slice ao p c)) 93)) none:=aQ _ _ _;have gP:=h.Z gO;go_enter func131,ntmps131;go_wp2_with fail;refine(iS m md o.a _ gP hw.nt).mono ?_;rintro e w1⟨t1,df,⟨eR,p1,c1,rfl⟩,aH⟩;have gQ:aj w1 w.heap.size 93 (aO o (.slice ao p c)):=aj.kept N0 aH (by simp);have M1:=cN.Z gP aH;have G1:=aC gO aH;have mG:dW t1:=by rw[<-df.out];exact jT hw _
 clear aH N0 gO gP v1 v0;have N1:aj (w1.alloc (.cells (bg t1 (.slice eR p1 c1)) 106)) w1.heap.size 106 (bg t1 (.slice eR p1 c1)):=aj.bB _ _ _;have ny:w1.cell? ⟨w.heap.size,5,none⟩=some (.int .i64 o.to):=gQ.cell 5;have gg:w.heap.size<w1.heap.size:=gQ.lt;go_wp2_with fail;refine(iS m md o.to _ (M1.Z (aQ _ _ _)) hw.nt).mono ?_;rintro e w2⟨t2,dL,⟨dO,p2,c2,rfl⟩,aM⟩;clear ny gg;have fS:aj w2 (w.heap.size) 93 (aO o (.slice ao p c)):=aj.kept (gQ.alloc _) aM (by simp);have lZ:aj w2 (w1.heap.size) 106 (bg t1 (.slice eR p1 c1)):=aj.kept N1 aM (by simp);have M2:=cN.Z (M1.Z (aQ _ _ _)) aM;have G2:=aC (aC G1 (aQ _ _ _)) aM;have tP:dW t2:=by rw[<-dL.out];exact jT hw _
 clear aM;have N2:aj (w2.alloc (.cells (bg t2 (.slice dO p2 c2)) 106)) w2.heap.size 106 (bg t2 (.slice dO p2 c2)):=aj.bB _ _ _;have oM:w2.cell? ⟨w.heap.size,0,none⟩=some (.int .i64 0):=by have q:=fS.cell 0;rw[lY,Hk.out] at q;exact q
 have gg:w.heap.size<w2.heap.size:=fS.lt;have He:=ae (show M.bT md o=false by unfold M.bT;simp only[Hk.out,df.out,dL.out];rfl);go_wp2;go_ret;exact⟨bq He.out.symm,(aC G2 (aQ _ _ _))⟩
theorem aio(m:Nat)(md:M.Md)(o:M.Op)(ao:Option Addr)(p c:Nat)(w:World)(h:cN w m md)(hw:lK md)(_ho:lW o)(hk:o.af=7) :
  Calls prog 131 #[.pointer (some ⟨m,0,none⟩),.agg (aO o (.slice ao p c))] w fun e w'=>e=.returned (.bool (M.bT md o))/\w.grownBy w' none:=by
 have v0:=lY o (.slice ao p c);have v1:=xb o (.slice ao p c);rw[hk] at v0;have Hk:=ae hk;clear hk;have N0:aj (w.alloc (.cells (aO o (.slice ao p c)) 93)) w.heap.size 93 (aO o (.slice ao p c)):=aj.bB _ _ _;have gO:w.grownBy (w.alloc (.cells (aO o (.slice ao p c)) 93)) none:=aQ _ _ _;have gP:=h.Z gO;go_enter func131,ntmps131;go_wp2_with fail;refine(iS m md o.a _ gP hw.nt).mono ?_;rintro e w1⟨t1,df,⟨eR,p1,c1,rfl⟩,aH⟩;have gQ:aj w1 w.heap.size 93 (aO o (.slice ao p c)):=aj.kept N0 aH (by simp);have M1:=cN.Z gP aH;have G1:=aC gO aH;have mG:dW t1:=by rw[<-df.out];exact jT hw _
 clear aH N0 gO gP v1 v0;have N1:aj (w1.alloc (.cells (bg t1 (.slice eR p1 c1)) 106)) w1.heap.size 106 (bg t1 (.slice eR p1 c1)):=aj.bB _ _ _;have ny:w1.cell? ⟨w.heap.size,5,none⟩=some (.int .i64 o.to):=gQ.cell 5;have gg:w.heap.size<w1.heap.size:=gQ.lt;go_wp2_with fail;refine(iS m md o.to _ (M1.Z (aQ _ _ _)) hw.nt).mono ?_;rintro e w2⟨t2,dL,⟨dO,p2,c2,rfl⟩,aM⟩;clear ny gg;have fS:aj w2 (w.heap.size) 93 (aO o (.slice ao p c)):=aj.kept (gQ.alloc _) aM (by simp);have lZ:aj w2 (w1.heap.size) 106 (bg t1 (.slice eR p1 c1)):=aj.kept N1 aM (by simp);have M2:=cN.Z (M1.Z (aQ _ _ _)) aM;have G2:=aC (aC G1 (aQ _ _ _)) aM;have tP:dW t2:=by rw[<-dL.out];exact jT hw _
 clear aM;have N2:aj (w2.alloc (.cells (bg t2 (.slice dO p2 c2)) 106)) w2.heap.size 106 (bg t2 (.slice dO p2 c2)):=aj.bB _ _ _;have oM:w2.cell? ⟨w.heap.size,0,none⟩=some (.int .i64 7):=by have q:=fS.cell 0;rw[lY,Hk.out] at q;exact q
 have gg:w.heap.size<w2.heap.size:=fS.lt;have He:=ae (show M.bT md o=M.kV t1 t2 by unfold M.bT;simp only[Hk.out,df.out,dL.out];rfl);go_wp2_with (first|(refine dj rfl 106 _ rfl (w1.heap.size) rfl 106 (bg t1 (.slice eR p1 c1)) (0,0) _ (lZ.alloc _) underlying106 rfl Tryz.iG ?_)|(refine dj rfl 106 _ rfl (w2.heap.size) rfl 106 (bg t2 (.slice dO p2 c2)) (0,0) _ N2 underlying106 rfl Tryz.iG ?_));refine(Qc t1 t2 _ _ _).mono ?_;rintro e w9⟨rfl,ky⟩;clear oM gg;have G9:=aC (aC G2 (aQ _ _ _)) ky;go_wp2;go_ret;exact⟨bq He.out.symm,G9⟩
end Go.Proofs.YtcnhfffgbamonabGreat
