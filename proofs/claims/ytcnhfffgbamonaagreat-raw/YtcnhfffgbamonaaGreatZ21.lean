import Derived.Test.YtcnhfffgbamonaaGreatZ20
set_option maxRecDepth 100000
set_option maxHeartbeats 6400000
namespace Go.Proofs.YtcnhfffgbamonaaGreat
open Go.Proofs.Tryz
open RowKit
theorem aoL(xs:List Int)(k:Nat)(v:Int):((xs.map (Value.int .i64)).toArray).setIfInBounds k (.int .i64 v)=((xs.set k v).map (Value.int .i64)).toArray:=by simp[List.map_set]
def wF(f:Int->Int)(ns:List Int)(k:Nat):List Int:=(ns.take k).map f++List.replicate (ns.length-k) 0
theorem aoM(f:Int->Int)(ns:List Int):wF f ns 0=List.replicate ns.length 0:=by simp[wF]
theorem aoN(f:Int->Int)(ns:List Int):wF f ns ns.length=ns.map f:=by simp[wF]
theorem aoO(f:Int->Int)(ns:List Int)(k:Nat)(h:k<=ns.length):(wF f ns k).length=ns.length:=by simp[wF];omega
theorem aoP{f:Int->Int}{ns:List Int}{k:Nat}{x:Int}(h:ns[k]?=some x):(wF f ns k).set k (f x)=wF f ns (k+1):=by
 have hl:=M.bP h;unfold wF;rw[H.kd h,List.set_append_right _ _ (by simp;omega)];have e:k-((ns.take k).map f).length=0:=by simp;omega
 rw[e,show ns.length-k=(ns.length-(k+1))+1 by omega,List.replicate_succ];simp
theorem ab6(p:Nat)(md:M.Md)(B:Nat)(a:Option Addr)(n c:Nat)(ns:List Int)(w:World)(hP:Pl w p md)(hI:aZ w B (.slice a n c) ns)(hn:ns.length<=255):
 Calls prog 134 #[.pointer (some ⟨p,0,none⟩),.slice a n c] w fun e w'=>e=.returned (cT w.heap.size (ns.map (je md)))/\aj w' w.heap.size 3 ((ns.map (je md)).map (Value.int .i64)).toArray/\w.grownBy w' none:=by
 obtain rfl:=hI.len;obtain⟨j0,hj,vZ,qq,wg⟩:=info_parts Tryz.oO;have HP:=ae hP;have HI:=ae hI;clear hP hI;go_enter func134,ntmps134;go_wp2_with(at_make;refine qg _ rfl _ _ 33 rfl w.heap.size 3 j0 (.int .i64 0) 1 underlying33 hj vZ qq _ _ _ _ ns.length rfl rfl rfl rfl ?c1 ?c2 ?c3 ?_)
 case c1=>rw[wg];omega
 case c2=>unfold maxLen;omega
 case c3=>exact bj _
 intro w2 cB aM;have ff:aj w2 w.heap.size 3 ((wF (je md) ns 0).map (Value.int .i64)).toArray:=by
  rw[aoM,List.map_replicate];exact xl cB
 clear cB;go_wp2;go_loopw[13] (fun i wr=>∃k:Nat,k<=ns.length/\i=.int .i64 k/\aj wr w.heap.size 3 ((wF (je md) ns k).map (Value.int .i64)).toArray/\w.grownBy wr none) (fun i _=>ns.length-(intOf i).toNat)
 case atStart=>exact⟨0,bK _,rfl,ff,aM⟩
 case round=>
  clear ff aM;obtain⟨k,hk,rfl,bV,aF⟩:=hrel;by_cases aJ:k<ns.length
  ·obtain⟨x,hx⟩:∃x,ns[k]?=some x:=⟨_,aS aJ⟩
   obtain⟨g,rfl,-,-,d0⟩:=(HI.out.Z aF).get k x hx;have HC:=ae (N5 p md x wr (HP.out.Z aF));have HS:=ae (aoP (f:=je md) hx);have hl:=aoO (je md) ns k hk;obtain⟨b,Hb⟩:∃b,Hid (je md x=b):=⟨_,rfl⟩;rw[Hb.out] at HC HS;obtain⟨v0,hv0⟩:∃v0,(wF (je md) ns k)[k]?=some v0:=⟨_,aS (by omega)⟩;have c0:wr.cell? ⟨w.heap.size,k,none⟩=some (.int .i64 v0):=by rw[bV.cell k];simp[hv0]
   have f0:=bV.free k;have iD:=ae (bV.set k (.int .i64 b));rw[aoL,HS.out] at iD;have dU:=ae (dF aF (bD wr w.heap.size k (.int .i64 b)) (bj _));have AU:=bV.lt;clear hx bV aF hv0 hl;go_wp2_with fail;refine HC.out.mono ?_;rintro e w3⟨rfl,rfl⟩;clear HC;go_wp2;go_roundw
   case rel=>exact⟨k+1,by omega,by go_num,iD.out,dU.out⟩
   case measure=>simp[intOf];omega
  ·obtain rfl:k=ns.length:=by omega
   rw[aoN] at bV;have eK:=ae bV;have bH:=ae aF;have Ho:Hid (cT w.heap.size (ns.map (je md))=.slice (some ⟨w.heap.size,0,none⟩) ns.length ns.length):=by unfold Hid cT;rw[jb]
   clear bV aF;go_wp2;go_ret;exact⟨by rw[Ho.out];rfl,eK.out,bH.out⟩
def pR(md:M.Md)(o:M.Op):Sp:=⟨o.af,(H.cM o).map (je md),je md o.to⟩
def lT(md:M.Md):List Sp:=(pM md).ag.map (pR md)
def sg(g:Nat)(s:Sp):List Value:=[.int .i64 s.af,cT g s.bS,.int .i64 s.to]
def si:List Value:=[.int .i64 0,.slice none 0 0,.int .i64 0]
def zm(gs:List Nat)(ss:List Sp)(n:Nat):List Value:=(List.zipWith sg gs ss).flatten++(List.replicate n si).flatten
theorem Oq:∀(gs:List Nat) (ss:List Sp),gs.length=ss.length->(List.zipWith sg gs ss).flatten.length=gs.length*3
 | [],[],_=>rfl
 |g::gs,s::ss,h=>by
  have ih:=Oq gs ss (by simpa using h);rw[List.zipWith_cons_cons,List.flatten_cons,nJ,ih,pN];show 3+_=_;omega
 | [],_::_,h=>aN h (by simp)
 |_::_,[],h=>aN h (by simp)
theorem Ta{gs:List Nat}{ss:List Sp}{n:Nat}(h:gs.length=ss.length)(hn:0<n)(j:Nat)(hj:j<3):(zm gs ss n)[gs.length*3+j]?=si[j]?:=by
 unfold zm;rw[og (by rw[Oq gs ss h];omega),Oq gs ss h,Nat.add_sub_cancel_left];obtain⟨n,rfl⟩:∃k,n=k+1:=⟨n-1,by omega⟩;rw[List.replicate_succ,List.flatten_cons,qT (by simpa[si] using hj)]
theorem aoQ{gs:List Nat}{ss:List Sp}{n g:Nat}{s:Sp}(h:gs.length=ss.length):
 (((zm gs ss (n+1)).set (gs.length*3) (.int .i64 s.af)).set (gs.length*3+1) (cT g s.bS)).set (gs.length*3+2) (.int .i64 s.to)=zm (gs++[g]) (ss++[s]) n:=by
 unfold zm;have hl:=Oq gs ss h;rw[SL h,List.replicate_succ,List.flatten_cons,List.flatten_append];generalize (List.zipWith sg gs ss).flatten=A at *;generalize (List.replicate n si).flatten=Z at *;have e:∀(X:List Value) (j:Nat) (v:Value),(A++X).set (gs.length*3+j) v=A++X.set j v:=fun X j v=>by
  rw[List.set_append_right _ _ (by omega),hl,Nat.add_sub_cancel_left]
 have e0:=e (si++Z) 0 (.int .i64 s.af);rw[Nat.add_zero] at e0;rw[e0,e,e];simp[si,sg]
structure mA(w:World)(B G:Nat)(gs:List Nat)(ss:List Sp):Prop where
 len:gs.length=ss.length
 out:aj w G 152 ((List.zipWith sg gs ss).flatten).toArray
 base:B<=G
 AZ:gs.Pairwise (· < ·)
 aT:∀g∈gs,G<g
 gy:∀(i:Nat) g s,gs[i]?=some g->ss[i]?=some s->aj w g 3 (s.bS.map (Value.int .i64)).toArray
theorem Tryz.ab8:(prog.info? 152).map (fun i=>(i.zero,i.size,i.bytes))=some (some (.agg #[.int .i64 0,.slice none 0 0,.int .i64 0]),3,40):=by kernel_rfl
theorem aoR(xs:List Value)(i:Nat)(a b c:Value):(((xs.toArray.setIfInBounds i a).setIfInBounds (i+1) b).setIfInBounds (i+2) c)=(((xs.set i a).set (i+1) b).set (i+2) c).toArray:=by simp
theorem aoS(n:Nat):(madeCells #[.int .i64 0,.slice none 0 0,.int .i64 0] (n*3)).toList=(List.replicate n si).flatten:=by
 apply nM
 intro i;have EE:∀n:Nat,(List.replicate n si).flatten=(List.replicate n ()).flatMap fun _=>si:=by
  intro n
  induction n with
  |zero=>rfl
  |succ n ih=>rw[List.replicate_succ,List.flatten_cons,ih,List.replicate_succ,List.flatMap_cons]
 rw[EE];by_cases h:i<n*3
 ·have e1:=lP (fun _:Unit=>si) 3 (fun _=>rfl) (List.replicate n ()) (i/3) (i%3) () (by rw[ui,ay (by omega)]) (by omega)
  rw[show i/3*3+i%3=i by omega] at e1;rw[e1];rcases(show i%3=0\/i%3=1\/i%3=2 by omega) with e|e|e<;>rw[e]<;>simp[madeCells,h,si,e]
 ·rw[db,db]
  ·simp[List.length_flatMap,si];omega
  ·simp[madeCells];omega
theorem aoT(p:Nat)(md:M.Md)(w:World)(hP:Pl w p md):
 Calls prog 96 #[.pointer (some ⟨p,0,none⟩)] w fun e w'=>(∃G gs,e=.returned (.slice (some ⟨G,0,none⟩) (pM md).ag.length (pM md).ag.length)/\mA w' w.heap.size G gs (lT md))/\w.grownBy w' none:=by
 obtain⟨i0,hi,cP,cQ,cZ⟩:=info_parts Tryz.ab8;have HP:=ae hP;obtain⟨m,an,cn,ab,cb,-,-,hB,hM,-,-,-,h1⟩:=hP;obtain⟨C,S⟩:=FT h1;have xv:=S.no;have q0:w.cell? ⟨p,0,none⟩=some (.pointer (some ⟨m,0,none⟩)):=hB.cell 0;obtain⟨a1,c1,a2,c2,a3,c3,re,-,hO,-⟩:=hM;have m1:w.cell? ⟨m,1,none⟩=some (.slice a2 (pM md).ag.length c2):=re.cell 1;have HO:=ae hO;have tF:=hB.lt;have qk:=re.lt;have HE:Hid (lT md=(pM md).ag.map (pR md)):=rfl;clear hB re hO S h1;generalize hN:(pM md).ag=os at *;clear hN;go_enter func96,ntmps96;go_wp2_with(at_make;refine qg _ rfl _ _ 117 rfl w.heap.size 152 i0 (.agg #[.int .i64 0,.slice none 0 0,.int .i64 0]) 3 underlying117 hi cP cQ _ _ _ _ os.length rfl rfl rfl rfl ?c1 ?c2 ?c3 ?_)
 case c1=>rw[cZ];omega
 case c2=>unfold maxLen;omega
 case c3=>exact bj _
 intro w2 cB aM;have ff:aj w2 w.heap.size 152 (zm [] [] os.length).toArray:=by
  rcases cB.2 with⟨h',_⟩|⟨g',LV,dY,h',_,hg,_,_,hz,ht⟩
  ·simp at h'
  ·simp only[Value.slice.injEq,kj,oP,and_true,true_and] at h'
   obtain⟨rfl,rfl⟩:=h';unfold aj;rw[hg];have e:dY.toList=zm [] [] os.length:=by
    rw[BF (by simp[hz])] at ht;rw[ht];exact aoS os.length
   rw[<-e]
 have AR:=aG aM q0;have m1':=aG aM m1;clear cB q0 m1;go_wp2;clear AR m1';go_loopw[35] (fun i wr=>∃(k:Nat) (gs:List Nat),k<=os.length/\i=.int .i64 k/\gs.length=k/\aj wr w.heap.size 152 (zm gs ((os.take k).map (pR md)) (os.length-k)).toArray/\Hid (gs.Pairwise (· < ·))/\Hid (∀g'∈gs,w.heap.size<g'/\g' < wr.heap.size)/\Hid (∀(j:Nat) g' s,gs[j]?=some g'->((os.take k).map (pR md))[j]?=some s->aj wr g' 3 (s.bS.map (Value.int .i64)).toArray)/\w.grownBy wr none) (fun i _=>os.length-(intOf i).toNat)
 case atStart=>exact⟨0,[],bK _,rfl,rfl,by simpa using ff,List.Pairwise.nil,fun _ h=>aN h (by simp),fun _ _ _ h=>aN h (by simp),aM⟩
 case round=>
  clear ff aM;obtain⟨k,gs,hk,rfl,gQ,bV,JT,A6,xu,aF⟩:=hrel;have bH:=ae aF;have Ft:=aF.size;have Ml:=bV.lt;have uG:Hid (((os.take k).map (pR md)).length=k):=by unfold Hid;simp;omega
  have jH:=ae gQ;by_cases aJ:k<os.length
  ·obtain⟨o,ho⟩:∃o,os[k]?=some o:=⟨_,aS aJ⟩
   obtain⟨g,ao,pp,cp,rfl,ax3,-,-,hR⟩:=(HO.out.Z aF).get k o ho;have vX:Hid ((os.take (k+1)).map (pR md)=(os.take k).map (pR md)++[pR md o]):=by unfold Hid;rw[H.kd ho];simp
   have lC:=ae (aj.bA wr 142 (aO o (.slice ao pp cp)));have dN:=ae (aQ wr (.cells (aO o (.slice ao pp cp)) 142) none);have eK:=ae bV;have HL:=ae (Jp o);clear ho bV aF gQ;go_wp2_with(first|(refine wpList_load_mid rfl 142 _ rfl g (k*16) rfl (aO o (.slice ao pp cp)).toList _ hR underlying142 rfl Tryz.de ?_)|(refine aaY rfl 142 _ _ rfl wr.heap.size (aO o (.slice ao pp cp)) rfl rfl 142 (aR 0 0 0 0 0 0 0 0 false (.slice none 0 0) 0 0 0 0 0 0) (aj.bA wr 142 _) Tryz.de rfl (oe ..) ?_;rw[World.setRow_alloc_new];generalize wr.alloc (.cells (aO o (.slice ao pp cp)) 142)=w3 at *)|(refine dj rfl 142 _ rfl wr.heap.size rfl 142 (aO o (.slice ao pp cp)) (0,0) _ lC.out underlying142 rfl Tryz.de ?_));refine(Nv o ao pp cp _).mono ?_;rintro e w4⟨⟨g4,rfl,lS⟩,bm⟩;have Ep:=aC dN.out bm;have iS:=ae (lC.out.kept bm (by simp));have aoU:=ae (aC bH.out Ep);have fC:=ae Ep;have HC:=ae (ab6 p md w3.heap.size (some ⟨g4,0,none⟩) (H.cM o).length (H.cM o).length (H.cM o) w4 (HP.out.Z aoU.out) lS (by have:=HL.out;omega));clear bm Ep lS hR lC dN;go_wp2_with fail;refine HC.out.mono ?_;rintro e w5⟨rfl,NX,cK⟩;have oE:=ae NX;have CI:=aC fC.out cK;have iC:=ae CI;have aca:=ae (aC bH.out CI);have Tb:=iS.out.kept cK (by simp);have o5:w5.cell? ⟨wr.heap.size,5,none⟩=some (.int .i64 o.to):=Tb.cell 5;have o0:w5.cell? ⟨wr.heap.size,0,none⟩=some (.int .i64 o.af):=Tb.cell 0;have qS:=fC.out.size;have xJ:=oE.out.lt;have tG:=ae (N5 p md o.to w5 (HP.out.Z aca.out));have JO:Hid ((pR md o).bS=(H.cM o).map (je md)):=rfl;have Nz:Hid ((pR md o).to=je md o.to):=rfl;have JG:Hid ((pR md o).af=o.af):=rfl;obtain⟨s,Hs⟩:∃s,Hid (pR md o=s):=⟨_,rfl⟩;rw[Hs.out] at JO Nz JG vX;rw[<-JO.out] at oE ⊢;rw[<-Nz.out] at tG;have aoV:Hid (cT w4.heap.size s.bS=.slice (some ⟨w4.heap.size,0,none⟩) s.bS.length s.bS.length):=rfl;rw[aoV.out]
   clear NX cK CI HC Tb iS;go_wp2_with fail;refine tG.out.mono ?_;rintro e w6⟨rfl,rfl⟩;clear tG;rw[<-JG.out] at o0;have CM:=eK.out.kept iC.out (by simp);have c0:w6.cell? ⟨w.heap.size,k*3,none⟩=some (.int .i64 0):=by
    rw[CM.cell];have e:=Ta (gs:=gs) (ss:=(os.take k).map (pR md)) (n:=os.length-k) (by rw[uG.out,jH.out]) (by omega) 0 (by decide);rw[jH.out,Nat.add_zero] at e
    simpa[si] using e
   have rX:w6.cell? ⟨w.heap.size,k*3+1,none⟩=some (.slice none 0 0):=by
    rw[CM.cell];have e:=Ta (gs:=gs) (ss:=(os.take k).map (pR md)) (n:=os.length-k) (by rw[uG.out,jH.out]) (by omega) 1 (by decide);rw[jH.out] at e
    simpa[si] using e
   have Af:w6.cell? ⟨w.heap.size,k*3+2,none⟩=some (.int .i64 0):=by
    rw[CM.cell];have e:=Ta (gs:=gs) (ss:=(os.take k).map (pR md)) (n:=os.length-k) (by rw[uG.out,jH.out]) (by omega) 2 (by decide);rw[jH.out] at e
    simpa[si] using e
   have f0:=CM.free (k*3);have f1:=CM.free (k*3+1);have f2:=CM.free (k*3+2);have wj:Hid (aj (((w6.setCell ⟨w.heap.size,k*3,none⟩ (.int .i64 s.af)).setCell ⟨w.heap.size,k*3+1,none⟩ (.slice (some ⟨w4.heap.size,0,none⟩) s.bS.length s.bS.length)).setCell ⟨w.heap.size,k*3+2,none⟩ (.int .i64 s.to)) w.heap.size 152 (zm (gs++[w4.heap.size]) ((os.take (k+1)).map (pR md)) (os.length-(k+1))).toArray):=by
    have e:=((CM.set (k*3) (.int .i64 s.af)).set (k*3+1) (cT w4.heap.size s.bS)).set (k*3+2) (.int .i64 s.to);have e2:=aoQ (gs:=gs) (ss:=(os.take k).map (pR md)) (n:=os.length-(k+1)) (g:=w4.heap.size) (s:=s) (by rw[uG.out,jH.out]);rw[show os.length-(k+1)+1=os.length-k by omega,jH.out,<-vX.out] at e2;rw[aoR,e2] at e;exact e
   have iB:w6.grownBy (((w6.setCell ⟨w.heap.size,k*3,none⟩ (.int .i64 s.af)).setCell ⟨w.heap.size,k*3+1,none⟩ (.slice (some ⟨w4.heap.size,0,none⟩) s.bS.length s.bS.length)).setCell ⟨w.heap.size,k*3+2,none⟩ (.int .i64 s.to)) (some w.heap.size):=aC (aC (bD _ _ _ _) (bD _ _ _ _)) (bD _ _ _ _);have lA:=ae (dF aca.out iB (bj _));have Tc:=aC (pr (row:=some w.heap.size) iC.out) iB;have ax4:=iB.size;have aoW:Hid (∀g'∈gs++[w4.heap.size],w.heap.size<g'/\g' < (((w6.setCell ⟨w.heap.size,k*3,none⟩ (.int .i64 s.af)).setCell ⟨w.heap.size,k*3+1,none⟩ (.slice (some ⟨w4.heap.size,0,none⟩) s.bS.length s.bS.length)).setCell ⟨w.heap.size,k*3+2,none⟩ (.int .i64 s.to)).heap.size):=fun g' fS=>by
    rcases List.mem_append.mp fS with h' |h'
    ·have:=A6.out g' h';have:=Tc.size;omega
    ·rw[List.mem_singleton.mp h'];omega
   have aoX:Hid ((gs++[w4.heap.size]).Pairwise (· < ·)):=List.pairwise_append.mpr ⟨JT.out,List.pairwise_singleton _ _,fun a ha b hb=>by
    rw[List.mem_singleton.mp hb];have:=A6.out a ha;omega⟩
   have aoY:Hid (∀(j:Nat) g' s',(gs++[w4.heap.size])[j]?=some g'->((os.take (k+1)).map (pR md))[j]?=some s'->aj (((w6.setCell ⟨w.heap.size,k*3,none⟩ (.int .i64 s.af)).setCell ⟨w.heap.size,k*3+1,none⟩ (.slice (some ⟨w4.heap.size,0,none⟩) s.bS.length s.bS.length)).setCell ⟨w.heap.size,k*3+2,none⟩ (.int .i64 s.to)) g' 3 (s'.bS.map (Value.int .i64)).toArray):=fun j g' s' fS jJ=>by
    rw[vX.out] at jJ;by_cases cj:j<k
    ·rw[qT (by rw[jH.out];exact cj)] at fS
     rw[qT (by rw[uG.out];exact cj)] at jJ;have hb:=A6.out g' (bU fS);exact(xu.out j g' s' fS jJ).kept Tc (by simp;omega)
    ·rw[og (by rw[jH.out];omega),jH.out] at fS
     rw[og (by rw[uG.out];omega),uG.out] at jJ;have ej:j-k=0:=by
      rcases Nat.eq_zero_or_pos (j-k) with h' |h'
      ·exact h'
      ·rw[db (by simp;omega)] at fS;exact aN fS (by simp)
     rw[ej] at fS jJ;simp at fS jJ;subst fS jJ;exact oE.out.kept iB (by simp;omega)
   clear iB Tc CM o5 oE eK;go_wp2;go_roundw
   case rel=>exact⟨k+1,gs++[w4.heap.size],by omega,by go_num,by simp[jH.out],wj.out,aoX.out,aoW.out,aoY.out,lA.out⟩
   case measure=>simp[intOf];omega
  ·obtain rfl:k=os.length:=by omega
   have HF:Hid (mA wr w.heap.size w.heap.size gs (lT md)):=by
    rw[jm,Nat.sub_self] at bV;have e:=xu.out;rw[jm,<-HE.out] at e;rw[<-HE.out] at bV;exact⟨by rw[gQ,HE.out,jb],by simpa[zm] using bV,bj _,JT.out,fun g' fS=>(A6.out g' fS).1,e⟩
   clear bV aF;go_wp2;go_ret;exact⟨⟨w.heap.size,gs,rfl,HF.out⟩,bH.out⟩
def iotaTo(cs:Array Value):Nat->Array Value
 |0=>cs
 |k+1=>(iotaTo cs k).setIfInBounds k (.int .i64 k)
theorem acb(cs:Array Value)(k:Nat):(iotaTo cs k).size=cs.size:=by
 induction k with
 |zero=>rfl
 |succ k ih=>unfold iotaTo;rw[Array.size_setIfInBounds,ih]
theorem acd(cs:Array Value)(k i:Nat)(h:i<cs.size):(iotaTo cs k)[i]?=if i<k then some (.int .i64 i) else cs[i]?:=by
 induction k with
 |zero=>simp[iotaTo]
 |succ k ih=>
  unfold iotaTo;rw[JB,acb];by_cases e:k=i
  ·subst e
   rw[ay rfl,ay h,ay (by omega)]
  ·rw[ak e,ih]
   by_cases c:i<k
   ·rw[ay c,ay (by omega)]
   ·rw[ak c,ak (by omega)]
theorem aoZ(cs:Array Value):iotaTo cs cs.size=(((List.range cs.size).map fun i:Nat=>(i:Int)).map (Value.int .i64)).toArray:=by
 apply Array.ext_getElem?
 intro i;rcases cE i cs.size with c|c
 ·rw[acd cs cs.size i c,ay c,nP,dV,dV,List.getElem?_range c]
  rfl
 ·rw[Array.getElem?_eq_none (by rw[acb];omega),Array.getElem?_eq_none (by simp;omega)]
theorem ao0(p:Nat)(md:M.Md)(w:World)(hP:Pl w p md):
 Calls prog 116 #[.pointer (some ⟨p,0,none⟩)] w fun e w'=>e=.returned (.slice (some ⟨w.heap.size,0,none⟩) (gC md.au).length (gC md.au).length) /\
   aj w' w.heap.size 3 (((List.range (gC md.au).length).map fun i:Nat=>(i:Int)).map (Value.int .i64)).toArray/\w.grownBy w' none:=by
 have CN:=hP.wf.nt;have sP:=anM md.au;obtain⟨m,an,cn,ab,cb,-,-,hB,-,-,-,-,h1⟩:=hP;have q1:w.cell? ⟨p,1,none⟩=some (.int .i64 (H.fO (pM md))):=hB.cell 1;rw[CF h1] at q1;have tF:=hB.lt;clear hB h1;generalize (gC md.au).length=N at *;have hN:N<=255:=by omega
 clear CN sP;obtain⟨i0,hi,cP,cQ,cZ⟩:=info_parts Tryz.oO;go_enter func116,ntmps116;go_wp2_with(at_make;refine qg _ rfl _ _ 33 rfl w.heap.size 3 i0 (.int .i64 0) 1 underlying33 hi cP cQ _ _ _ _ N rfl rfl rfl rfl ?c1 ?c2 ?c3 ?_)
 case c1=>rw[cZ];omega
 case c2=>unfold maxLen;omega
 case c3=>exact bj _
 intro w1 cB aH;have HB:=ae (xl cB);have dN:=ae aH;have oG:Hid (∀i,i<N->(List.replicate N (Value.int .i64 0)).toArray[i]?=some (.int .i64 0)):=fun i hi=>by simp[hi]
 have iU:(List.replicate N (Value.int .i64 0)).toArray.size=N:=by simp
 generalize (List.replicate N (Value.int .i64 0)).toArray=cs at *;have Ev:=ae iU;clear cB hi cP cQ cZ aH iU q1;go_wp2;go_loopw[14] (fun i wr=>∃k:Nat,k<=N/\i=.int .i64 k/\Hid (aj wr w.heap.size 3 (iotaTo cs k))/\Hid (w.grownBy wr none)) (fun i _=>N-(intOf i).toNat)
 case atStart=>exact⟨0,bK _,rfl,HB.out,dN.out⟩
 case round=>
  clear HB dN;obtain⟨k,hk,rfl,eK,bH⟩:=hrel;by_cases aJ:k<N
  ·have d0:wr.cell? ⟨w.heap.size,k,none⟩=some (.int .i64 0):=by rw[eK.out.cell k,acd _ _ _ (by rw[Ev.out];exact aJ),ak (by omega)];exact oG.out k aJ
   have f0:=eK.out.free k;have dh:=eK.out.lt;have iD:Hid (aj (wr.setCell ⟨w.heap.size,k,none⟩ (.int .i64 k)) w.heap.size 3 (iotaTo cs (k+1))):=eK.out.set k (.int .i64 k);have dU:=ae (dF bH.out (bD wr w.heap.size k (.int .i64 k)) (bj _));clear eK bH;go_wp2;go_roundw
   case rel=>exact⟨k+1,by omega,by go_num,iD.out,dU.out⟩
   case measure=>simp[intOf];omega
  ·obtain rfl:k=N:=by omega
   have HF:=ae eK.out;have e:=aoZ cs;rw[Ev.out] at e;rw[e] at HF;clear eK e;go_wp2;go_ret;exact⟨rfl,HF.out,bH.out⟩
theorem ao5(p:Nat)(md:M.Md)(w:World)(hP:Pl w p md):
 Calls prog 117 #[.pointer (some ⟨p,0,none⟩)] w fun e w'=>e=.returned (cT w.heap.size ((pM md).aK.map (je md)))/\aj w' w.heap.size 3 (((pM md).aK.map (je md)).map (Value.int .i64)).toArray/\w.grownBy w' none:=by
 have HP:=ae hP;obtain⟨m,an,cn,ab,cb,-,-,hB,hM,-,-,-,h1⟩:=hP;obtain⟨C,S⟩:=FT h1;have hu:=S.nu;have q0:w.cell? ⟨p,0,none⟩=some (.pointer (some ⟨m,0,none⟩)):=hB.cell 0;obtain⟨a1,c1,a2,c2,a3,c3,re,-,-,hU⟩:=hM;have m2:w.cell? ⟨m,2,none⟩=some (.slice a3 (pM md).aK.length c3):=re.cell 2;have HC:=ae (ab6 p md (m+1) a3 (pM md).aK.length c3 (pM md).aK w HP.out hU hu);have tF:=hB.lt;have qk:=re.lt;clear hB re hU h1 S;generalize (pM md).aK=us at *;go_enter func117,ntmps117;go_wp2_with fail;refine HC.out.mono ?_;rintro e w1⟨rfl,hb,hg⟩;have HB:=ae hb;have HG:=ae hg;clear hb hg HC;unfold cT;go_wp2;go_ret;exact⟨by unfold cT;rw[jb];rfl,HB.out,HG.out⟩
theorem ao6{P:Program}(w:World)(dT sT ty elem:TypeId)(g n ao7:Nat)(a:Addr)(ao8 size:Nat)(dY:Array Value)(t:TypeId)(cs:List Value)
  (hu:P.underlying dT=some (.slice elem)) (hs:(P.info? elem).map (·.size)=some size)
  (hg:w.heap[g]?=some (.cells dY t (0,0))) (hn:cs.length=n*size)
  (ao9:∀j v,cs[j]?=some v->w.cell? (a.add j)=some v) (apa:cs.length<=dY.size) (h1:∀v∈cs,v.oneCell'=true):
 (Builtin.copy_ #[dT,sT] ty #[.slice (some ⟨g,0,none⟩) n ao7,.slice (some a) n ao8]).run P w =
   .ok (goInt n) (w.setRow g (dY.toList.take 0++cs++dY.toList.drop (0+cs.length)).toArray):=by
 have hl:=run_loadCells_list (P:=P) w a cs ao9;have cC:=run_storeCells_at P g 0 t cs 0 dY w hg (by simpa using apa) h1;have hm:Nat.min n n=n:=Nat.min_self n
 cases hq:P.info? elem with
 |none=>simp[hq] at hs
 |some i=>
  have hi:i.size=size:=by simpa[hq] using hs
  simp[Builtin.copy_,run_underlying hu,Builtin.lenOf,Builtin.firstCells,sizeOf,typeInfo,hq,hi,hm,<-hn,hl,cC]
theorem apb(p:Nat)(md:M.Md)(w:World)(hP:Pl w p md)(hn:(pB md).length<=1000):
 Calls prog 115 #[.pointer (some ⟨p,0,none⟩)] w fun e w'=>e=.returned (.slice (some ⟨w.heap.size,0,none⟩) (pB md).length (pB md).length) /\
   aj w' w.heap.size 125 ((pB md).flatMap gm).toArray/\w.grownBy w' none:=by
 obtain⟨m,an,cn,ab,cb,-,-,hB,-,-,hF,-,h1⟩:=hP;have q3:w.cell? ⟨p,3,none⟩=some (.slice ab (pB md).length cb):=hB.cell 3;have tF:=hB.lt;have HF:=ae hF;have HB:=ae hB;clear hF h1 hB;have my:Hid (((pB md).flatMap gm).length=(pB md).length*2):=HF.out.1;generalize Fw:pB md=bs at *;clear Fw;obtain⟨i0,hi,cP,cQ,cZ⟩:=info_parts Tryz.Ss;have ju:(prog.info? 125).map (·.size)=some 2:=by rw[hi];simp[cQ]
 have CH:=ae ju;clear ju;go_enter func115,ntmps115;go_wp2_with(at_make;refine qg _ rfl _ _ 98 rfl w.heap.size 125 i0 (.agg #[.int .i64 0,.int .i64 0]) 2 underlying98 hi cP cQ _ _ _ _ bs.length rfl rfl rfl rfl ?c1 ?c2 ?c3 ?_)
 case c1=>rw[cZ];omega
 case c2=>unfold maxLen;omega
 case c3=>exact bj _
 intro w1 cB aH;have q3b:w1.cell? ⟨p,3,none⟩=some (.slice ab bs.length cb):=aG aH q3;have EF:=ae (eY HF.out aH);obtain⟨dY,Ot,Kd⟩:∃dY:Array Value,w1.heap[w.heap.size]?=some (.cells dY 125 (0,0))/\dY.size=bs.length*2:=by
  rcases cB.2 with⟨h',_⟩|⟨g',LV,dY,h',_,hg,_,_,hz,-⟩
  ·simp at h'
  ·simp only[Value.slice.injEq,kj,oP,and_true,true_and] at h'
   obtain⟨rfl,rfl⟩:=h';exact⟨dY,hg,hz⟩
 obtain⟨w2,hr,ff,JS⟩:∃w2,(Builtin.copy_ #[98,98] 3 #[.slice (some ⟨w.heap.size,0,none⟩) bs.length bs.length,.slice ab bs.length cb]).run prog w1=.ok (goInt bs.length) w2/\aj w2 w.heap.size 125 (bs.flatMap gm).toArray/\w.grownBy w2 none:=by
  by_cases h0:bs.length=0
  ·have e:bs=[]:=List.eq_nil_of_length_eq_zero h0
   subst e;have Ja:ab=none\/∃a,ab=some a:=by cases ab;exact .inl rfl;exact .inr ⟨_,rfl⟩
   have ec:dY=#[]:=Array.eq_empty_of_size_eq_zero (by simpa using Kd);subst ec;have sj:=fun x:Addr=>run_loadCells_list (P:=prog) w1 x [] (by simp);refine⟨w1,?_,Ot,aH⟩;rcases Ja with rfl|⟨a,rfl⟩
   ·simp[Builtin.copy_,run_underlying underlying98,Builtin.lenOf,Builtin.firstCells,sizeOf,typeInfo,hi,storeCells]
   ·have tC:=sj a
    simp at tC;simp[Builtin.copy_,run_underlying underlying98,Builtin.lenOf,Builtin.firstCells,sizeOf,typeInfo,hi,storeCells,tC]
  ·obtain⟨g,rfl,-,-,iU⟩:=nE EF.out (by omega)
   have N7:=ao6 (P:=prog) w1 98 98 3 125 w.heap.size bs.length bs.length ⟨g,0,none⟩ cb 2 dY 125 (bs.flatMap gm) underlying98 CH.out Ot my.out (fun j v hv=>by
    have e:(⟨g,0,none⟩:Addr).add j=⟨g,j,none⟩:=by unfold Addr.add;split<;>simp_all
    rw[e,iU j (by have:=(List.getElem?_eq_some_iff.1 hv).1;have:=my.out;omega)];exact hv) (by rw[my.out,Kd];exact bj _) (by intro v hv;obtain⟨x,-,hx⟩:=List.mem_flatMap.mp hv;unfold gm at hx;simp at hx;rcases hx with rfl|rfl<;>rfl)
   refine⟨_,N7,?_,BE (below_setRow (xj aH) (bj _) _)⟩;unfold aj;rw[setRow_heap w1 w.heap.size _ _ _ _ Ot];have hd:dY.toList.drop (0+(bs.flatMap gm).length)=[]:=List.drop_eq_nil_of_le (by rw[Array.length_toList,Kd,my.out];omega);rw[hd];simp
 have iD:=ae ff;have dU:=ae JS;clear ff JS aH HB HF EF cB Ot Kd hi cP cQ cZ q3;go_wp2;go_ret;exact⟨rfl,iD.out,dU.out⟩
theorem Tryz.uK:(prog.info? 119).map (·.size)=some 5:=by kernel_rfl
theorem mA.kept{w w':World}{B G T:Nat}{gs:List Nat}{ss:List Sp}(h:mA w B G gs ss)(hg:w.grownBy w' (some T))(hT:T<B):mA w' B G gs ss:=
 ⟨h.len,h.out.kept hg (by have:=h.base;simp;omega),h.base,h.AZ,h.aT,fun i g s hi hs=>(h.gy i g s hi hs).kept hg (by have h1:=h.base;have h2:=h.aT g (bU hi);simp;omega)⟩
theorem mA.Z{w w':World}{B G:Nat}{gs:List Nat}{ss:List Sp}(h:mA w B G gs ss)(hg:w.grownBy w' none):mA w' B G gs ss:=
 ⟨h.len,h.out.kept hg (by simp),h.base,h.AZ,h.aT,fun i g s hi hs=>(h.gy i g s hi hs).kept hg (by simp)⟩
theorem mA.lt{w:World}{B G:Nat}{gs:List Nat}{ss:List Sp}(h:mA w B G gs ss):G<w.heap.size/\∀g∈gs,g<w.heap.size:=by
 refine⟨h.out.lt,fun g hg=>?_⟩;obtain⟨i,hi⟩:=mQ hg;have hl:i<gs.length:=(List.getElem?_eq_some_iff.1 hi).1;obtain⟨s,hs⟩:∃s,ss[i]?=some s:=⟨_,aS (by rw[<-h.len];exact hl)⟩;exact(h.gy i g s hi hs).lt
theorem apc(p:Nat)(md:M.Md)(w:World)(hP:Pl w p md)(hn:(pB md).length<=1000):
 Calls prog 74 #[.pointer (some ⟨p,0,none⟩)] w fun e w'=>∃g0 G gs g2 g3,e=.returned (.agg #[.slice (some ⟨g0,0,none⟩) (pB md).length (pB md).length,.slice (some ⟨G,0,none⟩) (pM md).ag.length (pM md).ag.length,.slice (some ⟨g2,0,none⟩) (gC md.au).length (gC md.au).length,cT g3 ((pM md).aK.map (je md)),.int .i64 0]) /\
   w.heap.size<=g0/\g0<G/\(∀g∈gs,g<g2)/\G<g2/\g2<g3/\aj w' g0 125 ((pB md).flatMap gm).toArray/\mA w' (w.heap.size+3) G gs (lT md) /\
   aj w' g2 3 (((List.range (gC md.au).length).map fun i:Nat=>(i:Int)).map (Value.int .i64)).toArray/\aj w' g3 3 (((pM md).aK.map (je md)).map (Value.int .i64)).toArray/\w.grownBy w' none:=by
 have HP:=ae hP;have Hn:=ae hn;have zn:((w.alloc (.cells #[.slice none 0 0,.slice none 0 0,.slice none 0 0,.slice none 0 0,.int .i64 0] 119)).alloc (.cells #[.slice none 0 0,.slice none 0 0,.slice none 0 0,.slice none 0 0,.int .i64 0] 119)).heap.size=w.heap.size+2:=by simp
 have G0:=ae (nZ w (.cells #[.slice none 0 0,.slice none 0 0,.slice none 0 0,.slice none 0 0,.int .i64 0] 119) (.cells #[.slice none 0 0,.slice none 0 0,.slice none 0 0,.slice none 0 0,.int .i64 0] 119) none);have BA:=ae ((aj.bA w 119 #[.slice none 0 0,.slice none 0 0,.slice none 0 0,.slice none 0 0,.int .i64 0]).alloc (.cells #[.slice none 0 0,.slice none 0 0,.slice none 0 0,.slice none 0 0,.int .i64 0] 119));have BT:=ae (aj.yA w (.cells #[.slice none 0 0,.slice none 0 0,.slice none 0 0,.slice none 0 0,.int .i64 0] 119) 119 #[.slice none 0 0,.slice none 0 0,.slice none 0 0,.slice none 0 0,.int .i64 0]);obtain⟨W0,qy⟩:∃W,Hid (((w.alloc (.cells #[.slice none 0 0,.slice none 0 0,.slice none 0 0,.slice none 0 0,.int .i64 0] 119)).alloc (.cells #[.slice none 0 0,.slice none 0 0,.slice none 0 0,.slice none 0 0,.int .i64 0] 119))=W):=⟨_,rfl⟩;rw[qy.out] at zn G0 BA BT;clear hP hn;go_enter func74,ntmps74;go_wp2_with fail;rw[qy.out];refine(apb p md W0 (HP.out.Z G0.out) Hn.out).mono ?_;rintro e q1⟨rfl,xT,hg⟩;rw[zn] at xT ⊢;have T1:=BT.out.kept hg (by simp);have t1:q1.cell? ⟨w.heap.size+1,0,none⟩=some (.slice none 0 0):=T1.cell 0;have f1:=T1.free 0;have l1:=T1.lt;have cC:=bD q1 (w.heap.size+1) 0 (.slice (some ⟨w.heap.size+2,0,none⟩) (pB md).length (pB md).length);have vY:=ae (T1.set 0 (.slice (some ⟨w.heap.size+2,0,none⟩) (pB md).length (pB md).length));have xU:=ae ((BA.out.kept hg (by simp)).kept cC (by simp));have lU:=ae (xT.kept cC (by simp));have dN:=ae (dF (aC G0.out hg) cC (by omega));have cQ:w.heap.size+3<=q1.heap.size:=by have:=xT.lt;omega
 obtain⟨r1,zo⟩:∃r,Hid (q1.setCell ⟨w.heap.size+1,0,none⟩ (.slice (some ⟨w.heap.size+2,0,none⟩) (pB md).length (pB md).length)=r):=⟨_,rfl⟩;have xV:r1.heap.size=q1.heap.size:=by rw[<-zo.out];simp
 rw[zo.out] at vY xU lU dN;clear xT hg T1 cC BT BA G0;go_wp2_with fail;rw[zo.out];refine(aoT p md r1 (HP.out.Z dN.out)).mono ?_;rintro e q2⟨⟨G,gs,rfl,hS⟩,hg⟩;have S2:mA q2 (w.heap.size+3) G gs (lT md):=⟨hS.len,hS.out,by have:=hS.base;omega,hS.AZ,hS.aT,hS.gy⟩;have T2:=vY.out.kept hg (by simp);have t2:q2.cell? ⟨w.heap.size+1,1,none⟩=some (.slice none 0 0):=T2.cell 1;have f2:=T2.free 1;have l2:=T2.lt;obtain⟨nS,Ou⟩:∃n,Hid ((pM md).ag.length=n):=⟨_,rfl⟩;rw[Ou.out];have cC:=bD q2 (w.heap.size+1) 1 (.slice (some ⟨G,0,none⟩) nS nS);have sr:=ae (T2.set 1 (.slice (some ⟨G,0,none⟩) nS nS));have mW:=ae ((xU.out.kept hg (by simp)).kept cC (by simp));have iD:=ae ((lU.out.kept hg (by simp)).kept cC (by simp));have gL:=ae (S2.kept cC (by omega));have dU:=ae (dF (aC dN.out hg) cC (by omega));have cZ:=S2.lt;obtain⟨r2,zq⟩:∃r,Hid (q2.setCell ⟨w.heap.size+1,1,none⟩ (.slice (some ⟨G,0,none⟩) nS nS)=r):=⟨_,rfl⟩;have zt:r2.heap.size=q2.heap.size:=by rw[<-zq.out];simp
 rw[zq.out] at sr mW iD gL dU;have HZ2:=ae cZ;have hG0:=ae hS.base;clear hS S2 hg T2 cC vY xU lU dN t1 f1 cZ;go_wp2_with fail;rw[zq.out];refine(ao0 p md r2 (HP.out.Z dU.out)).mono ?_;rintro e q3⟨rfl,Ov,hg⟩;rw[zt] at Ov ⊢;have T3:=sr.out.kept hg (by simp);have t3:q3.cell? ⟨w.heap.size+1,2,none⟩=some (.slice none 0 0):=T3.cell 2;have f3:=T3.free 2;have l3:=T3.lt;obtain⟨nI,Ow⟩:∃n,Hid ((gC md.au).length=n):=⟨_,rfl⟩;rw[Ow.out];have cC:=bD q3 (w.heap.size+1) 2 (.slice (some ⟨q2.heap.size,0,none⟩) nI nI);have rm:=ae (T3.set 2 (.slice (some ⟨q2.heap.size,0,none⟩) nI nI));have mX:=ae ((mW.out.kept hg (by simp)).kept cC (by simp));have fU:=ae ((iD.out.kept hg (by simp)).kept cC (by simp));have lE:=ae ((gL.out.Z hg).kept cC (by omega));have mr:=ae (Ov.kept cC (by simp;omega));have fR:=ae (dF (aC dU.out hg) cC (by omega));have hz3:=Ov.lt;obtain⟨r3,Ke⟩:∃r,Hid (q3.setCell ⟨w.heap.size+1,2,none⟩ (.slice (some ⟨q2.heap.size,0,none⟩) nI nI)=r):=⟨_,rfl⟩;have hr3:r3.heap.size=q3.heap.size:=by rw[<-Ke.out];simp
 rw[Ke.out] at rm mX fU lE mr fR;clear Ov hg T3 cC sr mW iD gL dU t2 f2;go_wp2_with fail;rw[Ke.out];refine(ao5 p md r3 (HP.out.Z fR.out)).mono ?_;rintro e q4⟨rfl,EG,hg⟩;rw[hr3] at EG ⊢;have T4:=rm.out.kept hg (by simp);have t4:q4.cell? ⟨w.heap.size+1,3,none⟩=some (.slice none 0 0):=T4.cell 3;have f4:=T4.free 3;have l4:=T4.lt;obtain⟨ov,tH⟩:∃v,Hid (cT q3.heap.size ((pM md).aK.map (je md))=v):=⟨_,rfl⟩;have Kf:ov=.slice (some ⟨q3.heap.size,0,none⟩) ((pM md).aK.map (je md)).length ((pM md).aK.map (je md)).length:=tH.out.symm;obtain⟨nO,HnO⟩:∃n,Hid (((pM md).aK.map (je md)).length=n):=⟨_,rfl⟩;rw[HnO.out] at Kf;subst Kf;rw[tH.out];have cC:=bD q4 (w.heap.size+1) 3 (.slice (some ⟨q3.heap.size,0,none⟩) nO nO);have NJ:Hid (aj (q4.setCell ⟨w.heap.size+1,3,none⟩ (.slice (some ⟨q3.heap.size,0,none⟩) nO nO)) (w.heap.size+1) 119 #[.slice (some ⟨w.heap.size+2,0,none⟩) (pB md).length (pB md).length,.slice (some ⟨G,0,none⟩) nS nS,.slice (some ⟨q2.heap.size,0,none⟩) nI nI,.slice (some ⟨q3.heap.size,0,none⟩) nO nO,.int .i64 0]):=T4.set 3 (.slice (some ⟨q3.heap.size,0,none⟩) nO nO);have rn:=ae ((mX.out.kept hg (by simp)).kept cC (by simp));have iS:=ae ((fU.out.kept hg (by simp)).kept cC (by simp));have jS:=ae ((lE.out.Z hg).kept cC (by omega));have ky:=ae ((mr.out.kept hg (by simp)).kept cC (by simp;omega));have HU4:=ae (EG.kept cC (by simp;omega));have fC:=ae (dF (aC fR.out hg) cC (by omega));obtain⟨r4,F7⟩:∃r,Hid (q4.setCell ⟨w.heap.size+1,3,none⟩ (.slice (some ⟨q3.heap.size,0,none⟩) nO nO)=r):=⟨_,rfl⟩;rw[F7.out] at NJ rn iS jS ky HU4 fC;clear EG hg T4 cC rm mX fU lE mr fR t3 f3
 have EA:=ae (setRow_heap r4 w.heap.size _ #[.slice (some ⟨w.heap.size+2,0,none⟩) (pB md).length (pB md).length,.slice (some ⟨G,0,none⟩) nS nS,.slice (some ⟨q2.heap.size,0,none⟩) nI nI,.slice (some ⟨q3.heap.size,0,none⟩) nO nO,.int .i64 0] 119 _ rn.out);have g5:=vB r4 w.heap.size #[.slice (some ⟨w.heap.size+2,0,none⟩) (pB md).length (pB md).length,.slice (some ⟨G,0,none⟩) nS nS,.slice (some ⟨q2.heap.size,0,none⟩) nI nI,.slice (some ⟨q3.heap.size,0,none⟩) nO nO,.int .i64 0];have oE:=ae (iS.out.kept g5 (by simp));have sw:=ae (jS.out.kept g5 (by omega));have rU:=ae (ky.out.kept g5 (by simp;omega));have HU5:=ae (HU4.out.kept g5 (by simp;omega));have iC:=ae (dF fC.out g5 (bj _));clear g5;go_wp2_with(first|(rw[F7.out];refine dj rfl 119 _ rfl (w.heap.size+1) rfl 119 #[.slice (some ⟨w.heap.size+2,0,none⟩) (pB md).length (pB md).length,.slice (some ⟨G,0,none⟩) nS nS,.slice (some ⟨q2.heap.size,0,none⟩) nI nI,.slice (some ⟨q3.heap.size,0,none⟩) nO nO,.int .i64 0] (0,0) _ NJ.out underlying119 rfl Tryz.uK ?_)|(refine aaY rfl 119 _ _ rfl w.heap.size #[.slice (some ⟨w.heap.size+2,0,none⟩) (pB md).length (pB md).length,.slice (some ⟨G,0,none⟩) nS nS,.slice (some ⟨q2.heap.size,0,none⟩) nI nI,.slice (some ⟨q3.heap.size,0,none⟩) nO nO,.int .i64 0] rfl rfl 119 #[.slice none 0 0,.slice none 0 0,.slice none 0 0,.slice none 0 0,.int .i64 0] rn.out Tryz.uK rfl (by simp[Value.oneCell']) ?_));refine bodyPost_ret (v:=.agg #[.slice (some ⟨w.heap.size+2,0,none⟩) (pB md).length (pB md).length,.slice (some ⟨G,0,none⟩) nS nS,.slice (some ⟨q2.heap.size,0,none⟩) nI nI,.slice (some ⟨q3.heap.size,0,none⟩) nO nO,.int .i64 0]) ?hr rfl ?_
 case hr=>exact results_cell_row Tryz.results74 _ _ w.heap.size 119 _ (0,0) _ rfl EA.out underlying119 rfl Tryz.uK
 exact⟨w.heap.size+2,G,gs,q2.heap.size,q3.heap.size,by rw[Ou.out,Ow.out,tH.out],by omega,by have:=hG0.out;omega,HZ2.out.2,HZ2.out.1,by omega,oE.out,sw.out,by rw[Ow.out];rw[Ow.out] at rU;exact rU.out,HU5.out,iC.out⟩
namespace T
def sumTo(bs:List H.Bf):Nat->Int
 |0=>0
 |k+1=>sumTo bs k+(bs.getD k H.aV).c
def tI(l:List Lf)(bs:List H.Bf)(t:Int):Nat->Int
 |0=>0
 |k+1=>if (l.getD k no).f<=t/\t<=(l.getD k no).t then tI l bs t k+(bs.getD k H.aV).c else tI l bs t k
structure Ox(l:List Lf)(bs:List H.Bf)(size:Int):Prop where
 len:l.length=bs.length
 pd:bs.length<=64
 bG:∀i,i<bs.length->0<=(bs.getD i H.aV).a/\1<=(bs.getD i H.aV).c/\(bs.getD i H.aV).c<=512/\(bs.getD i H.aV).e<=100000
 apart:∀i j,i<bs.length->j<i->¬(((l.getD i no).f<=(l.getD j no).t/\(l.getD j no).f<=(l.getD i no).t)/\(bs.getD i H.aV).a<(bs.getD j H.aV).e/\(bs.getD j H.aV).a<(bs.getD i H.aV).e)
 Te:∀t,tI l bs t bs.length<=size
 ax6:size=H.gU bs
 sum:size<=sumTo bs bs.length
def lr(b:H.Bf)(p:Int):Int:=if b.a<=p/\p<b.e then 1 else 0
def row(b:H.Bf):Nat->Int
 |0=>0
 |p+1=>row b p+lr b p
theorem aci(b:H.Bf)(h0:0<=b.a)(h1:0<=b.c):∀p:Nat,row b p=if (p:Int)<=b.a then 0 else if (p:Int)<=b.e then p-b.a else b.c
 |0=>by
  unfold row;rw[ay (by omega)]
 |p+1=>by
  have ih:=aci b h0 h1 p;unfold row lr;rw[ih];have he:b.e=b.a+b.c:=rfl;by_cases c1:(p:Int)<=b.a
  ·rw[ay c1]
   by_cases c2:((p+1:Nat):Int)<=b.a
   ·rw[ay c2,ak (by omega)];omega
   ·rw[ak c2]
    by_cases c3:((p+1:Nat):Int)<=b.e
    ·rw[ay c3,ay (by omega)];omega
    ·rw[ak c3,ak (by omega)];omega
  ·rw[ak c1,ak (show ¬((p+1:Nat):Int)<=b.a by omega)]
   by_cases c2:(p:Int)<=b.e
   ·rw[ay c2]
    by_cases c3:((p+1:Nat):Int)<=b.e
    ·rw[ay c3,ay (by omega)];omega
    ·rw[ak c3,ak (by omega)];omega
   ·rw[ak c2,ak (show ¬((p+1:Nat):Int)<=b.e by omega),ak (by omega)];omega
def zu(l:List Lf)(bs:List H.Bf)(t p:Int):Nat->Int
 |0=>0
 |k+1=>if (l.getD k no).f<=t/\t<=(l.getD k no).t then zu l bs t p k+lr (bs.getD k H.aV) p else zu l bs t p k
def kE(l:List Lf)(bs:List H.Bf)(t:Int)(k:Nat):Nat->Int
 |0=>0
 |p+1=>kE l bs t k p+zu l bs t p k
theorem acj(l:List Lf)(bs:List H.Bf)(t:Int)(k:Nat):∀p,kE l bs t (k+1) p=if (l.getD k no).f<=t/\t<=(l.getD k no).t then kE l bs t k p+row (bs.getD k H.aV) p else kE l bs t k p
 |0=>by unfold kE row;split<;>rfl
 |p+1=>by
  unfold kE row;rw[acj l bs t k p]
  conv=>lhs;rhs;unfold zu
  split<;>omega
theorem Nj(l:List Lf)(bs:List H.Bf)(t:Int):∀p,kE l bs t 0 p=0
 |0=>rfl
 |p+1=>by unfold kE;rw[Nj l bs t p];rfl
theorem ack{l:List Lf}{bs:List H.Bf}{t:Int}{E:Nat}:∀k,(∀i,i<k->0<=(bs.getD i H.aV).a/\0<=(bs.getD i H.aV).c/\(bs.getD i H.aV).e<=E)->tI l bs t k=kE l bs t k E
 |0,_=>by rw[Nj];rfl
 |k+1,h=>by
  have ih:=ack (l:=l) (t:=t) k fun i hi=>h i (by omega);rw[acj];unfold tI;obtain⟨h0,h1,h2⟩:=h k (by omega);have e:=aci (bs.getD k H.aV) h0 h1 E;have he:(bs.getD k H.aV).e=(bs.getD k H.aV).a+(bs.getD k H.aV).c:=rfl;have e':row (bs.getD k H.aV) E=(bs.getD k H.aV).c:=by
   rw[e]
   split
   ·omega
   ·split<;>omega
  rw[ih,e']
theorem acm{l:List Lf}{bs:List H.Bf}{t p:Int}:∀k,(∀i j,i<k->j<i->¬(((l.getD i no).f<=(l.getD j no).t/\(l.getD j no).f<=(l.getD i no).t)/\(bs.getD i H.aV).a<(bs.getD j H.aV).e/\(bs.getD j H.aV).a<(bs.getD i H.aV).e)) ->
  (0<=zu l bs t p k/\zu l bs t p k<=1)/\(zu l bs t p k=1->∃j,j<k/\((l.getD j no).f<=t/\t<=(l.getD j no).t)/\(bs.getD j H.aV).a<=p/\p<(bs.getD j H.aV).e)
 |0,_=>⟨⟨Int.le_refl _,by show(0:Int)<=1;decide⟩,fun h=>aN h (by show ¬((0:Int)=1);decide)⟩
 |k+1,h=>by
  obtain⟨⟨i0,i1⟩,i2⟩:=acm (l:=l) (bs:=bs) (t:=t) (p:=p) k fun i j hi hj=>h i j (by omega) hj;unfold zu;by_cases c:(l.getD k no).f<=t/\t<=(l.getD k no).t
  ·rw[ay c]
   unfold lr;by_cases d:(bs.getD k H.aV).a<=p/\p<(bs.getD k H.aV).e
   ·rw[ay d]
    have z:zu l bs t p k≠1:=by
     intro e;obtain⟨j,hj,lj,pj⟩:=i2 e;exact h k j (by omega) hj ⟨⟨by omega,by omega⟩,by omega,by omega⟩
    exact⟨⟨by omega,by omega⟩,fun _=>⟨k,by omega,c,d⟩⟩
   ·rw[ak d]
    refine⟨⟨by omega,by omega⟩,fun e=>?_⟩;obtain⟨j,hj,hh⟩:=i2 (by omega);exact⟨j,by omega,hh⟩
  ·rw[ak c]
   refine⟨⟨i0,i1⟩,fun e=>?_⟩;obtain⟨j,hj,hh⟩:=i2 e;exact⟨j,by omega,hh⟩
theorem acn{l:List Lf}{bs:List H.Bf}{t:Int}{k:Nat}(h:∀p,zu l bs t p k<=1):∀p:Nat,kE l bs t k p<=p
 |0=>Int.le_refl _
 |p+1=>by
  have:=acn (l:=l) (bs:=bs) (t:=t) (k:=k) h p;have:=h p;unfold kE;omega
theorem aco(x:H.Bf)(bs:List H.Bf):∀k,sumTo (x::bs) (k+1)=x.c+sumTo bs k
 |0=>by show(0:Int)+x.c=x.c+0;omega
 |k+1=>by
  have ih:=aco x bs k;show sumTo (x::bs) (k+1)+(bs.getD k H.aV).c=x.c+(sumTo bs k+(bs.getD k H.aV).c);omega
theorem acp:∀bs:List H.Bf,sumTo bs bs.length=H.sumC bs
 | []=>rfl
 |x::bs=>by rw[pN,aco,acp bs];rfl
theorem Tf{bs:List H.Bf}(h:∀i,i<bs.length->(bs.getD i H.aV).c<=512):∀k,k<=bs.length->sumTo bs k<=512*k
 |0,_=>by show(0:Int)<=512*((0:Nat):Int);decide
 |k+1,hk=>by
  have:=Tf h k (by omega);have:=h k (by omega);unfold sumTo;omega
theorem apg{m:M.Md}{C:List (List Int)}(S:H.dH m C)(hI:H.fO m<=24):Ox ((H.nL m).lv.map lf) (H.fg (H.nL m).lv) (H.gU (H.fg (H.nL m).lv)):=by
 have P:=H.Az S;have Ly:=(H.FI S).L;have on:=P.lr S;have hl:=P.ll;have xv:=S.no;generalize H.nL m=d at *;generalize H.fg d.lv=bs at *;have len:=Ly.len;have gl:∀i,i<d.lv.length->(d.lv.map lf).getD i no=lf (d.lv.getD i H.bQ):=by
  intro i hi;rw[List.getD,dV,List.getD,aS hi];rfl
 have acq:∀i,i<bs.length->(bs.getD i H.aV).c<=512:=fun i hi=>by rw[Ly.c i (by omega)];exact(on i (by omega)).2
 have ax7:=Tf acq bs.length (bj _);have es:=acp bs;have D3:=Ly.sum;have ap:∀i j,i<bs.length->j<i->¬((((d.lv.map lf).getD i no).f<=((d.lv.map lf).getD j no).t/\((d.lv.map lf).getD j no).f<=((d.lv.map lf).getD i no).t)/\(bs.getD i H.aV).a<(bs.getD j H.aV).e/\(bs.getD j H.aV).a<(bs.getD i H.aV).e):=by
  intro i j hi hj;rw[gl i (by omega),gl j (by omega)];rintro ⟨⟨h1,h2⟩,h3,h4⟩;have yL:(d.lv.getD i H.bQ).f-1<=(d.lv.getD j H.bQ).t-1:=h1;have h2':(d.lv.getD j H.bQ).f-1<=(d.lv.getD i H.bQ).t-1:=h2;have:=Ly.apart i j (by omega) (by omega) (by omega) (by unfold H.mR;rw[eX,decide_eq_true_eq,decide_eq_true_eq];omega);omega
 refine⟨by simp[len],by omega,fun i hi=>⟨Ly.a i (by omega),?_,acq i hi,?_⟩,ap,fun t=>?_,rfl,by rw[es];exact D3⟩
 ·rw[Ly.c i (by omega)];exact(on i (by omega)).1
 ·have:=Ly.Ck i (by omega)
  omega
 ·have hE:0<=H.gU bs:=H.Cj _ _
  rw[ack (E:=(H.gU bs).toNat) bs.length fun i hi=>⟨Ly.a i (by omega),by rw[Ly.c i (by omega)];have:=(on i (by omega)).1;omega,by have:=Ly.Ck i (by omega);omega⟩];have:=acn (l:=d.lv.map lf) (bs:=bs) (t:=t) (k:=bs.length) (fun p=>(acm bs.length ap).1.2) (H.gU bs).toNat;omega
def oH(ss:List Sp)(v:Int):Nat->Nat
 |0=>0
 |j+1=>match ss[j]? with
  |some s=>oH ss v j+s.bS.count v
  |none=>oH ss v j
def uL(ss:List Sp)(v:Int):Nat->Bool
 |0=>false
 |j+1=>match ss[j]? with
  |some s=>uL ss v j||(s.bS.contains v&&s.af==7)
  |none=>uL ss v j
def Oy(ss:List Sp)(us:List Int):Prop:=∀(i:Nat) s,ss[i]?=some s->us.count s.to+oH ss s.to ss.length≠0/\¬(us.count s.to+oH ss s.to ss.length=1/\uL ss s.to ss.length=true/\s.af<=7)
theorem Tg{f:Int->Int}{v:Int}:∀(xs:List Int),(∀x∈xs,f x=f v->x=v)->(xs.map f).count (f v)=xs.count v
 | [],_=>rfl
 |x::xs,h=>by
  rw[List.map_cons,List.count_cons,List.count_cons,Tg xs fun y hy=>h y (sZ _ hy)];by_cases e:x=v
  ·subst e;simp
  ·have:f x≠f v:=fun e'=>e (h x pC e')
   simp[e,this]
theorem acr{m:M.Md}{v:Int}(h:∀o∈m.ag,∀n∈H.cM o,fx m n=fx m v->n=v):∀j,j<=m.ag.length->oH (gV m) (fx m v) j=H.iQ (m.ag.take j) v
 |0,_=>by simp[oH,H.iQ]
 |j+1,hj=>by
  have hx:m.ag[j]?=some m.ag[j]:=aS (by omega);generalize m.ag[j]=o at hx;have hs:(gV m)[j]?=some (sp m o):=by unfold gV;rw[dV,hx];rfl
  rw[oH,hs,H.kd hx];show oH (gV m) (fx m v) j+((H.cM o).map (fx m)).count (fx m v)=_;rw[Tg _ (h o (bU hx)),acr h j (by omega)];unfold H.iQ;rw[List.flatMap_append,List.count_append];simp
theorem Th{ss:List Sp}{v:Int}:∀j,uL ss v j=true->∃(i:Nat) (s:Sp),ss[i]?=some s/\v∈s.bS/\s.af=7
 |0,h=>aN h (by simp[uL])
 |j+1,h=>by
  unfold uL at h
  cases e:ss[j]? with
  |none=>rw[e] at h;exact Th j h
  |some s=>
   rw[e] at h;have h:(uL ss v j||(s.bS.contains v&&s.af==7))=true:=h;rw[Bool.or_eq_true] at h;rcases h with h|h
   ·exact Th j h
   ·simp at h
    exact⟨j,s,e,h.1,h.2⟩
theorem aph{m:M.Md}{C:List (List Int)}(S:H.dH m C)(hw:(∀o∈m.ag,H.cJ m o.to≠0)/\(∀c∈m.ag,∀t∈m.ag,c.af=7->H.te t=true->t.to=c.a->H.cJ m t.to≠1))(hk:∀o∈m.ag,1<=o.af):Oy (gV m) (aK m):=by
 intro i s hs;unfold gV at hs;rw[dV] at hs;obtain⟨o,ho,rfl⟩:=Option.map_eq_some_iff.mp hs;have P:=H.Az S;obtain⟨t0,t1,t3⟩:=S.to o (bU ho);have eb:fx m o.to=((H.fO m+i:Nat):Int):=by
  unfold fx;rw[ak (by rw[P.ln];omega),(P.n1 i o ho).1];omega
 have inj:∀n:Int,0<=n->n<m.au.length->fx m n=fx m o.to->n=o.to:=by
  intro n n0 n1 e;rw[eb] at e;have e':(H.nL m).aW.getD n.toNat 0=((H.fO m+i:Nat):Int):=by
   unfold fx at e;rw[ak (by rw[P.ln];omega)] at e;exact e
  rcases P.df (by omega) e' with⟨-,-,h⟩|⟨j,p,hp,he,hb⟩
  ·omega
  ·have:i=j:=by omega
   subst this;rw[ho] at hp;injection hp with hp;rw[hp];omega
 have acs:∀p∈m.ag,∀n∈H.cM p,fx m n=fx m o.to->n=o.to:=by
  intro p hp n hn;have a:=S.av hp hn;exact inj n a.1 a.2.1
 have api:∀n∈m.aK,fx m n=fx m o.to->n=o.to:=by
  intro n hn;have a:=(S.aK n hn).1;exact inj n a.1 a.2.1
 have hl:(gV m).length=m.ag.length:=by simp[gV]
 have eN:(aK m).count (fx m o.to)+oH (gV m) (fx m o.to) (gV m).length=H.cJ m o.to:=by
  rw[hl,acr acs m.ag.length (bj _),jm];unfold aK H.cJ;rw[Tg _ api];omega
 show(aK m).count (fx m o.to)+oH (gV m) (fx m o.to) (gV m).length≠0/\¬((aK m).count (fx m o.to)+oH (gV m) (fx m o.to) (gV m).length=1/\_/\o.af<=7);rw[eN];have Ti:=bU ho;refine⟨hw.1 o Ti,?_⟩;rintro ⟨h1,hc,h7⟩;obtain⟨j,s,jJ,hv,k7⟩:=Th _ hc;unfold gV at jJ;rw[dV] at jJ;obtain⟨c,Mm,rfl⟩:=Option.map_eq_some_iff.mp jJ;have Ka:c.af=7:=k7;have ro:H.cM c=[c.a]:=by unfold H.cM;rw[Ka,ak (by decide),ak (by decide)]
 have Tj:fx m o.to∈(H.cM c).map (fx m):=hv;rw[ro] at Tj;simp at Tj;have hcm:=bU Mm;have:=acs c hcm c.a (H.vL c) Tj.symm;refine hw.2 c hcm o Ti Ka ?_ this.symm h1;unfold H.te;have:=hk o Ti;simp;omega
end T
namespace T
theorem acv:∀(i:Nat) (m:M.Md),(H.rQ i m).ag.length<=m.ag.length
 |0,_=>bj _
 |i+1,m=>jN (acv i (H.kF m i)) (H.YH m i).2
theorem apj(m:M.Md):(H.jE m).ag.length<=m.ag.length:=by
 have h1:(H.iR m).ag.length<=m.ag.length:=by rw[H.YE];exact(H.Jr m m.ag.length (bj _)).2.2.2
 have h2:(H.drop (H.iR m)).ag.length<=(H.iR m).ag.length:=acv _ _;have h3:(H.oY (H.drop (H.iR m))).ag.length<=(H.drop (H.iR m)).ag.length:=by rw[H.YK];exact H.RT _ _ (bj _)
 show(H.oY (H.drop (H.iR m))).ag.length<=_;omega
theorem apk(m:M.Md):H.fO m<=m.au.length:=by
 rw[H.Nb];unfold H.cy;exact jN (List.length_filter_le _ _) (by simp)
structure Ok(m:M.Md)(N:Nat)(bs:List H.Bf):Prop where
 len:bs.length=N
 pd:N<=64
 lv:Om N (gV m) (ins m) (aK m)
 ar:Ox (uJ N (gV m) (ins m) (aK m)) bs (H.gU bs)
 fu:Oy (gV m) (aK m)
theorem apl{md:M.Md}(h:O.iP md):Ok (H.jE md) (H.fO (H.jE md)+(H.jE md).ag.length) (H.fg (H.nL (H.jE md)).lv):=by
 obtain⟨C,S0⟩:=H.Nx h;have S:=S0.jE;have hv:=H.aot S0;have hw:=H.aoz S0;have P:=H.Az S;have Ly:=(H.FI S).L;have hi:=apk (H.jE md);have CN:=S.nt;have xv:=S.no;have lv:=aoK S hv _ rfl;refine⟨by rw[Ly.len,P.ll],by omega,lv.2,?_,aph S hw fun o ho=>(S.fi o ho).dQ.k0⟩;rw[lv.1];exact apg S (by omega)
end T
def kA(x:T.Lf):List Value:=[.int .i64 x.f,.int .i64 x.t,.bool x.m]
theorem apm(xs:List T.Lf):(xs.flatMap kA).length=xs.length*3:=by
 rw[List.length_flatMap]
 induction xs with
 |nil=>rfl
 |cons x xs ih=>simp[kA] at ih ⊢;omega
theorem zx{w:World}{g tt:Nat}{xs:List T.Lf}(hB:aj w g tt (xs.flatMap kA).toArray){i:Nat}{x:T.Lf}(h:xs[i]?=some x):
  w.cell? ⟨g,i*3,none⟩=some (.int .i64 x.f)/\w.cell? ⟨g,i*3+1,none⟩=some (.int .i64 x.t)/\w.cell? ⟨g,i*3+2,none⟩=some (.bool x.m):=by
 have cF:∀j,j<3->w.cell? ⟨g,i*3+j,none⟩=(kA x)[j]?:=by
  intro j hj;rw[hB.cell (i*3+j),nP];exact lP kA 3 (fun _=>rfl) xs i j x h hj
 exact⟨cF 0 (by omega),cF 1 (by omega),cF 2 (by omega)⟩
theorem Tk{xs:List T.Lf}{i:Nat}{x:T.Lf}(h:xs[i]?=some x)(t:Int):((xs.flatMap kA).toArray).setIfInBounds (i*3+1) (.int .i64 t)=((xs.set i ⟨x.f,t,x.m⟩).flatMap kA).toArray:=by
 rw[List.setIfInBounds_toArray];rw[vS kA 3 (fun _=>rfl) xs i 1 x ⟨x.f,t,x.m⟩ _ h (by decide) rfl]
theorem acw{xs:List T.Lf}{i:Nat}{x:T.Lf}(h:xs[i]?=some x)(f t:Int)(m:Bool):
 ((((xs.flatMap kA).toArray.setIfInBounds (i*3) (.int .i64 f)).setIfInBounds (i*3+1) (.int .i64 t)).setIfInBounds (i*3+2) (.bool m))=((xs.set i ⟨f,t,m⟩).flatMap kA).toArray:=by
 have hl:=M.bP h;have e0:((xs.flatMap kA).toArray.setIfInBounds (i*3) (.int .i64 f))=((xs.set i ⟨f,x.t,x.m⟩).flatMap kA).toArray:=by
  rw[List.setIfInBounds_toArray,<-vS kA 3 (fun _=>rfl) xs i 0 x ⟨f,x.t,x.m⟩ (.int .i64 f) h (by decide) rfl,Nat.add_zero]
 have h1:(xs.set i ⟨f,x.t,x.m⟩)[i]?=some ⟨f,x.t,x.m⟩:=by rw[List.getElem?_set_self hl]
 rw[e0,Tk h1,List.set_set,List.setIfInBounds_toArray];have h2:(xs.set i ⟨f,t,x.m⟩)[i]?=some ⟨f,t,x.m⟩:=by rw[List.getElem?_set_self hl]
 rw[vS kA 3 (fun _=>rfl) (xs.set i ⟨f,t,x.m⟩) i 2 ⟨f,t,x.m⟩ ⟨f,t,m⟩ _ h2 (by decide) rfl,List.set_set]
structure Td where
 g0:Nat
 nb:Nat
 G:Nat
 gs:List (Nat×Nat)
 g2:Nat
 ni:Nat
 g3:Nat
 no:Nat
 mark:Int
def Td.val(t:Td):List Value:=[.slice (some ⟨t.g0,0,none⟩) t.nb t.nb,.slice (some ⟨t.G,0,none⟩) t.gs.length t.gs.length,.slice (some ⟨t.g2,0,none⟩) t.ni t.ni,.slice (some ⟨t.g3,0,none⟩) t.no t.no,.int .i64 t.mark]
def Td.iG(t:Td):List Nat:=t.g0::t.G::t.g2::t.g3::t.gs.map (·.1)
def Oz(mark:Int)(p:Nat×Nat):List Value:=[.int .i64 (-7),.slice (some ⟨p.1,0,none⟩) p.2 p.2,.int .i64 (-mark-3)]
def OA(mark:Int):List Value:=[.int .i64 (-mark),.int .i64 (-7)]
structure ry(w:World)(t:Td):Prop where
 m0:0<=t.mark
 m1:t.mark<=1000000000000
 pd:t.nb<=1000/\t.gs.length<=1000/\t.ni<=1000/\t.no<=1000
 acx:∀p∈t.gs,p.2<=1000
 b:aj w t.g0 125 ((List.replicate t.nb ()).flatMap fun _=>OA t.mark).toArray
 s:aj w t.G 152 (t.gs.flatMap (Oz t.mark)).toArray
 i:aj w t.g2 3 ((List.replicate t.ni (-(t.mark+1)-7)).map (Value.int .i64)).toArray
 o:aj w t.g3 3 ((List.replicate t.no (-(t.mark+2)-7)).map (Value.int .i64)).toArray
 f:∀(k:Nat) p,t.gs[k]?=some p->aj w p.1 3 ((List.replicate p.2 (-(t.mark+4+k)-7)).map (Value.int .i64)).toArray
theorem ry.kept{w w':World}{t:Td}{S:Nat->Prop}(h:ry w t)(hF:Fr S w w')(hS:∀g∈t.iG,¬S g):ry w' t:=by
 refine⟨h.m0,h.m1,h.pd,h.acx,hF.gy h.b (hS _ (by simp[Td.iG])),hF.gy h.s (hS _ (by simp[Td.iG])),hF.gy h.i (hS _ (by simp[Td.iG])),hF.gy h.o (hS _ (by simp[Td.iG])),fun k p hp=>hF.gy (h.f k p hp) (hS _ ?_)⟩;unfold Td.iG
 iterate 4 refine sZ _ ?_
 exact List.mem_map_of_mem (f:=fun p:Nat×Nat=>p.1) (bU hp)
theorem ry.Z{w w':World}{t:Td}(h:ry w t)(hg:w.grownBy w' none):ry w' t:=h.kept (Fr.uI hg) (fun _ _ e=>by cases e)
def Ts(w:World)(base:Nat)(v:Value)(tl:List Td):Prop:=w.ownsRow base 119 5 v tl.length (tl.flatMap Td.val)/\∀t∈tl,ry w t
theorem Tl{w:World}{g n c:Nat}{x:Int}(h:aj w g 3 ((List.replicate n x).map (Value.int .i64)).toArray):Sl w (.slice (some ⟨g,0,none⟩) n c) (List.replicate n x):=by
 refine⟨some ⟨g,0,none⟩,c,by rw[vT],fun i y hy=>⟨_,rfl,?_⟩⟩;rw[vy,h.cell i,nP,dV,hy]
 rfl
theorem Tm{n:Nat}{x:Int}:∀(i:Nat) y,(List.replicate n x)[i]?=some y->y=x:=by
 intro i y h;rw[ui] at h
 split at h
 ·injection h with h;exact h.symm
 ·exact aN h (by simp)
theorem ry.apn{w:World}{t:Td}(h:ry w t){k:Nat}(hk:k<t.nb):w.cell? ⟨t.g0,k*2,none⟩=some (.int .i64 (-t.mark))/\w.cell? ⟨t.g0,k*2+1,none⟩=some (.int .i64 (-7)):=by
 have cF:∀j,j<2->w.cell? ⟨t.g0,k*2+j,none⟩=(OA t.mark)[j]?:=by
  intro j hj;rw[h.b.cell (k*2+j),nP];exact lP (fun _:Unit=>OA t.mark) 2 (fun _=>rfl) (List.replicate t.nb ()) k j () (by rw[ui,ay hk]) hj
 exact⟨cF 0 (by omega),cF 1 (by omega)⟩
theorem ry.gV{w:World}{t:Td}(h:ry w t){k:Nat}{p:Nat×Nat}(hp:t.gs[k]?=some p):w.cell? ⟨t.G,k*3,none⟩=some (.int .i64 (-7))/\w.cell? ⟨t.G,k*3+1,none⟩=some (.slice (some ⟨p.1,0,none⟩) p.2 p.2)/\w.cell? ⟨t.G,k*3+2,none⟩=some (.int .i64 (-t.mark-3)):=by
 have cF:∀j,j<3->w.cell? ⟨t.G,k*3+j,none⟩=(Oz t.mark p)[j]?:=by
  intro j hj;rw[h.s.cell (k*3+j),nP];exact lP (Oz t.mark) 3 (fun _=>rfl) t.gs k j p hp hj
 exact⟨cF 0 (by omega),cF 1 (by omega),cF 2 (by omega)⟩
theorem Ts.row{w:World}{base:Nat}{a:Option Addr}{n c:Nat}{tl:List Td}(h:Ts w base (.slice a n c) tl){k:Nat}{t:Td}(hk:tl[k]?=some t):∃g,a=some ⟨g,0,none⟩/\n=tl.length/\base<=g /\
  w.cell? ⟨g,k*5,none⟩=some (.slice (some ⟨t.g0,0,none⟩) t.nb t.nb)/\w.cell? ⟨g,k*5+1,none⟩=some (.slice (some ⟨t.G,0,none⟩) t.gs.length t.gs.length)/\w.cell? ⟨g,k*5+2,none⟩=some (.slice (some ⟨t.g2,0,none⟩) t.ni t.ni) /\
  w.cell? ⟨g,k*5+3,none⟩=some (.slice (some ⟨t.g3,0,none⟩) t.no t.no)/\w.cell? ⟨g,k*5+4,none⟩=some (.int .i64 t.mark)/\ry w t:=by
 have aJ:=M.bP hk;obtain⟨g,ha,hb,hn,hc⟩:=nE h.1 (by omega);have cF:∀j,j<5->w.cell? ⟨g,k*5+j,none⟩=t.val[j]?:=by
  intro j hj;rw[hc _ (by omega)];exact lP Td.val 5 (fun _=>rfl) tl k j t hk hj
 exact⟨g,ha,hn,hb,cF 0 (by omega),cF 1 (by omega),cF 2 (by omega),cF 3 (by omega),cF 4 (by omega),h.2 t (bU hk)⟩
end Go.Proofs.YtcnhfffgbamonaaGreat
