import Derived.Test.YtcnhfffgbamonabGreatZ20
set_option maxRecDepth 100000
set_option maxHeartbeats 6400000
namespace Go.Proofs.YtcnhfffgbamonabGreat
open Go.Proofs.Tryz
open Go.RowKit
theorem anI(xs:List Int)(k:Nat)(v:Int):((xs.map (Value.int .i64)).toArray).setIfInBounds k (.int .i64 v)=((xs.set k v).map (Value.int .i64)).toArray:=by simp[List.map_set]
def vS(f:Int->Int)(ns:List Int)(k:Nat):List Int:=(ns.take k).map f++List.replicate (ns.length-k) 0
theorem anJ(f:Int->Int)(ns:List Int):vS f ns 0=List.replicate ns.length 0:=by simp[vS]
theorem anK(f:Int->Int)(ns:List Int):vS f ns ns.length=ns.map f:=by simp[vS]
theorem anL(f:Int->Int)(ns:List Int)(k:Nat)(h:k<=ns.length):(vS f ns k).length=ns.length:=by simp[vS];omega
theorem anM{f:Int->Int}{ns:List Int}{k:Nat}{x:Int}(h:ns[k]?=some x):(vS f ns k).set k (f x)=vS f ns (k+1):=by
 have hl:=M.bP h;unfold vS;rw[H.kj h,List.set_append_right _ _ (by simp;omega)];have e:k-((ns.take k).map f).length=0:=by simp;omega
 rw[e,show ns.length-k=(ns.length-(k+1))+1 by omega,List.replicate_succ];simp
theorem Z7(p:Nat)(md:M.Md)(B:Nat)(a:Option Addr)(n c:Nat)(ns:List Int)(w:World)(hP:Pl w p md)(hI:aZ w B (.slice a n c) ns)(hn:ns.length<=255) :
  Calls prog 157 #[.pointer (some ⟨p,0,none⟩),.slice a n c] w fun e w'=>e=.returned (dg w.heap.size (ns.map (iX md)))/\aj w' w.heap.size 3 ((ns.map (iX md)).map (Value.int .i64)).toArray/\w.grownBy w' none:=by
 obtain rfl:=hI.len;obtain⟨j0,hj,vL,p9,vM⟩:=info_parts Tryz.oH;have HP:=ae hP;have HI:=ae hI;clear hP hI;go_enter func157,ntmps157;go_wp2_with (at_make;refine pU _ rfl _ _ 32 rfl w.heap.size 3 j0 (.int .i64 0) 1 underlying32 hj vL p9 _ _ _ _ ns.length rfl rfl rfl rfl ?c1 ?c2 ?c3 ?_)
 case c1=>rw[vM];omega
 case c2=>unfold maxLen;omega
 case c3=>exact bj _
 intro w2 cB aM;have fA:aj w2 w.heap.size 3 ((vS (iX md) ns 0).map (Value.int .i64)).toArray:=by
  rw[anJ,List.map_replicate];exact wR cB
 clear cB;go_wp2;go_loopw[13] (fun i wr=>∃k:Nat,k<=ns.length/\i=.int .i64 k/\aj wr w.heap.size 3 ((vS (iX md) ns k).map (Value.int .i64)).toArray/\w.grownBy wr none) (fun i _=>ns.length-(intOf i).toNat)
 case atStart=>exact⟨0,bK _,rfl,fA,aM⟩
 case round=>
  clear fA aM;obtain⟨k,hk,rfl,bU,aF⟩:=hrel;by_cases aK:k<ns.length
  ·obtain⟨x,hx⟩:∃x,ns[k]?=some x:=⟨_,aT aK⟩
   obtain⟨g,rfl,-,-,d0⟩:=(HI.out.Z aF).get k x hx;have HC:=ae (Nt p md x wr (HP.out.Z aF));have HS:=ae (anM (f:=iX md) hx);have hl:=anL (iX md) ns k hk;obtain⟨b,Hb⟩:∃b,Hid (iX md x=b):=⟨_,rfl⟩;rw[Hb.out] at HC HS;obtain⟨v0,Z8⟩:∃v0,(vS (iX md) ns k)[k]?=some v0:=⟨_,aT (by omega)⟩;have c0:wr.cell? ⟨w.heap.size,k,none⟩=some (.int .i64 v0):=by rw[bU.cell k];simp[Z8]
   have f0:=bU.free k;have iV:=ae (bU.set k (.int .i64 b));rw[anI,HS.out] at iV;have dZ:=ae (dF aF (bD wr w.heap.size k (.int .i64 b)) (bj _));have AB:=bU.lt;clear hx bU aF Z8 hl;go_wp2_with fail;refine HC.out.mono ?_;rintro e w3⟨rfl,rfl⟩;clear HC;go_wp2;go_roundw
   case rel=>exact⟨k+1,by omega,by go_num,iV.out,dZ.out⟩
   case measure=>simp[intOf];omega
  ·obtain rfl:k=ns.length:=by omega
   rw[anK] at bU;have eJ:=ae bU;have bH:=ae aF;have Ho:Hid (dg w.heap.size (ns.map (iX md))=.slice (some ⟨w.heap.size,0,none⟩) ns.length ns.length):=by unfold Hid dg;rw[jh]
   clear bU aF;go_wp2;go_ret;exact⟨by rw[Ho.out];rfl,eJ.out,bH.out⟩
def pH(md:M.Md)(o:M.Op):Sp:=⟨o.af,(H.cM o).map (iX md),iX md o.to⟩
def lQ(md:M.Md):List Sp:=(pM md).ag.map (pH md)
def rS(g:Nat)(s:Sp):List Value:=[.int .i64 s.af,dg g s.bS,.int .i64 s.to]
def rT:List Value:=[.int .i64 0,.slice none 0 0,.int .i64 0]
def yM(gs:List Nat)(ss:List Sp)(n:Nat):List Value:=(List.zipWith rS gs ss).flatten++(List.replicate n rT).flatten
theorem NO:∀(gs:List Nat) (ss:List Sp),gs.length=ss.length->(List.zipWith rS gs ss).flatten.length=gs.length*3
 | [],[],_=>rfl
 | g::gs,s::ss,h=>by
  have ih:=NO gs ss (by simpa using h);rw[List.zipWith_cons_cons,List.flatten_cons,nC,ih,qe];show 3+_=_;omega
 | [],_::_,h=>aN h (by simp)
 | _::_,[],h=>aN h (by simp)
theorem Sr{gs:List Nat}{ss:List Sp}{n:Nat}(h:gs.length=ss.length)(hn:0<n)(j:Nat)(hj:j<3):(yM gs ss n)[gs.length*3+j]?=rT[j]?:=by
 unfold yM;rw[oL (by rw[NO gs ss h];omega),NO gs ss h,Nat.add_sub_cancel_left];obtain⟨n,rfl⟩:∃k,n=k+1:=⟨n-1,by omega⟩;rw[List.replicate_succ,List.flatten_cons,rn (by simpa[rT] using hj)]
theorem anN{gs:List Nat}{ss:List Sp}{n g:Nat}{s:Sp}(h:gs.length=ss.length) :
  (((yM gs ss (n+1)).set (gs.length*3) (.int .i64 s.af)).set (gs.length*3+1) (dg g s.bS)).set (gs.length*3+2) (.int .i64 s.to)=yM (gs++[g]) (ss++[s]) n:=by
 unfold yM;have hl:=NO gs ss h;rw[R4 h,List.replicate_succ,List.flatten_cons,List.flatten_append];generalize (List.zipWith rS gs ss).flatten=A at *;generalize (List.replicate n rT).flatten=Z at *;have e:∀(X:List Value) (j:Nat) (v:Value),(A++X).set (gs.length*3+j) v=A++X.set j v:=fun X j v=>by
  rw[List.set_append_right _ _ (by omega),hl,Nat.add_sub_cancel_left]
 have e0:=e (rT++Z) 0 (.int .i64 s.af);rw[Nat.add_zero] at e0;rw[e0,e,e];simp[rT,rS]
structure mo(w:World)(B G:Nat)(gs:List Nat)(ss:List Sp):Prop where
 len:gs.length=ss.length
 out:aj w G 151 ((List.zipWith rS gs ss).flatten).toArray
 base:B<=G
 AH:gs.Pairwise (· < ·)
 aS:∀g∈gs,G<g
 gF:∀(i:Nat) g s,gs[i]?=some g->ss[i]?=some s->aj w g 3 (s.bS.map (Value.int .i64)).toArray
theorem Tryz.Z9:(prog.info? 151).map (fun i=>(i.zero,i.size,i.bytes))=some (some (.agg #[.int .i64 0,.slice none 0 0,.int .i64 0]),3,40):=by kernel_rfl
theorem anO(xs:List Value)(i:Nat)(a b c:Value):(((xs.toArray.setIfInBounds i a).setIfInBounds (i+1) b).setIfInBounds (i+2) c)=(((xs.set i a).set (i+1) b).set (i+2) c).toArray:=by simp
theorem anP(n:Nat):(madeCells #[.int .i64 0,.slice none 0 0,.int .i64 0] (n*3)).toList=(List.replicate n rT).flatten:=by
 apply nF
 intro i;have Eg:∀n:Nat,(List.replicate n rT).flatten=(List.replicate n ()).flatMap fun _=>rT:=by
  intro n
  induction n with
  | zero=>rfl
  | succ n ih=>rw[List.replicate_succ,List.flatten_cons,ih,List.replicate_succ,List.flatMap_cons]
 rw[Eg];by_cases h:i<n*3
 ·have e1:=lL (fun _:Unit=>rT) 3 (fun _=>rfl) (List.replicate n ()) (i/3) (i%3) () (by rw[tV,ay (by omega)]) (by omega)
  rw[show i/3*3+i%3=i by omega] at e1;rw[e1];rcases(show i%3=0\/i%3=1\/i%3=2 by omega) with e|e|e<;>rw[e]<;>simp[madeCells,h,rT,e]
 ·rw[cX,cX]
  ·simp[List.length_flatMap,rT];omega
  ·simp[madeCells];omega
theorem anQ(p:Nat)(md:M.Md)(w:World)(hP:Pl w p md) :
  Calls prog 120 #[.pointer (some ⟨p,0,none⟩)] w fun e w'=>(∃G gs,e=.returned (.slice (some ⟨G,0,none⟩) (pM md).ag.length (pM md).ag.length)/\mo w' w.heap.size G gs (lQ md))/\w.grownBy w' none:=by
 obtain⟨i0,hi,cQ,cR,cZ⟩:=info_parts Tryz.Z9;have HP:=ae hP;obtain⟨m,an,cn,ab,cb,-,-,hB,hM,-,-,-,h1⟩:=hP;obtain⟨C,S⟩:=Fq h1;have wZ:=S.no;have q0:w.cell? ⟨p,0,none⟩=some (.pointer (some ⟨m,0,none⟩)):=hB.cell 0;obtain⟨a1,c1,a2,c2,a3,c3,qQ,-,hO,-⟩:=hM;have m1:w.cell? ⟨m,1,none⟩=some (.slice a2 (pM md).ag.length c2):=qQ.cell 1;have HO:=ae hO;have s8:=hB.lt;have pX:=qQ.lt;have HE:Hid (lQ md=(pM md).ag.map (pH md)):=rfl;clear hB qQ hO S h1;generalize hN:(pM md).ag=os at *;clear hN;go_enter func120,ntmps120;go_wp2_with (at_make;refine pU _ rfl _ _ 130 rfl w.heap.size 151 i0 (.agg #[.int .i64 0,.slice none 0 0,.int .i64 0]) 3 underlying130 hi cQ cR _ _ _ _ os.length rfl rfl rfl rfl ?c1 ?c2 ?c3 ?_)
 case c1=>rw[cZ];omega
 case c2=>unfold maxLen;omega
 case c3=>exact bj _
 intro w2 cB aM;have fA:aj w2 w.heap.size 151 (yM [] [] os.length).toArray:=by
  rcases cB.2 with⟨h',_⟩|⟨g',Ll,dV,h',_,hg,_,_,hz,ht⟩
  ·simp at h'
  ·simp only[Value.slice.injEq,j8,oI,and_true,true_and] at h'
   obtain⟨rfl,rfl⟩:=h';unfold aj;rw[hg];have e:dV.toList=yM [] [] os.length:=by
    rw[Bo (by simp[hz])] at ht;rw[ht];exact anP os.length
   rw[<-e]
 have Ay:=aG aM q0;have m1':=aG aM m1;clear cB q0 m1;go_wp2;clear Ay m1';go_loopw[35] (fun i wr=>∃(k:Nat) (gs:List Nat),k<=os.length/\i=.int .i64 k/\gs.length=k/\aj wr w.heap.size 151 (yM gs ((os.take k).map (pH md)) (os.length-k)).toArray/\Hid (gs.Pairwise (· < ·))/\Hid (∀g'∈gs,w.heap.size<g'/\g' < wr.heap.size)/\Hid (∀(j:Nat) g' s,gs[j]?=some g'->((os.take k).map (pH md))[j]?=some s->aj wr g' 3 (s.bS.map (Value.int .i64)).toArray)/\w.grownBy wr none) (fun i _=>os.length-(intOf i).toNat)
 case atStart=>exact⟨0,[],bK _,rfl,rfl,by simpa using fA,List.Pairwise.nil,fun _ h=>aN h (by simp),fun _ _ _ h=>aN h (by simp),aM⟩
 case round=>
  clear fA aM;obtain⟨k,gs,hk,rfl,gN,bU,Js,AK,wY,aF⟩:=hrel;have bH:=ae aF;have EZ:=aF.size;have LF:=bU.lt;have ur:Hid (((os.take k).map (pH md)).length=k):=by unfold Hid;simp;omega
  have lq:=ae gN;by_cases aK:k<os.length
  ·obtain⟨o,ho⟩:∃o,os[k]?=some o:=⟨_,aT aK⟩
   obtain⟨g,ao,pp,cp,rfl,awU,-,-,hR⟩:=(HO.out.Z aF).get k o ho;have vJ:Hid ((os.take (k+1)).map (pH md)=(os.take k).map (pH md)++[pH md o]):=by unfold Hid;rw[H.kj ho];simp
   have lp:=ae (aj.bB wr 93 (aO o (.slice ao pp cp)));have dN:=ae (aQ wr (.cells (aO o (.slice ao pp cp)) 93) none);have eJ:=ae bU;have HL:=ae (IK o);clear ho bU aF gN;go_wp2_with (first|(refine wpList_load_mid rfl 93 _ rfl g (k*16) rfl (aO o (.slice ao pp cp)).toList _ hR underlying93 rfl Tryz.db ?_)|(refine aaY rfl 93 _ _ rfl wr.heap.size (aO o (.slice ao pp cp)) rfl rfl 93 (aR 0 0 0 0 0 0 0 0 false (.slice none 0 0) 0 0 0 0 0 0) (aj.bB wr 93 _) Tryz.db rfl (nY ..) ?_;rw[World.setRow_alloc_new];generalize wr.alloc (.cells (aO o (.slice ao pp cp)) 93)=w3 at *)|(refine dj rfl 93 _ rfl wr.heap.size rfl 93 (aO o (.slice ao pp cp)) (0,0) _ lp.out underlying93 rfl Tryz.db ?_));refine(MS o ao pp cp _).mono ?_;rintro e w4⟨⟨g4,rfl,lO⟩,bm⟩;have D5:=aC dN.out bm;have jr:=ae (lp.out.kept bm (by simp));have anR:=ae (aC bH.out D5);have fB:=ae D5;have HC:=ae (Z7 p md w3.heap.size (some ⟨g4,0,none⟩) (H.cM o).length (H.cM o).length (H.cM o) w4 (HP.out.Z anR.out) lO (by have:=HL.out;omega));clear bm D5 lO hR lp dN;go_wp2_with fail;refine HC.out.mono ?_;rintro e w5⟨rfl,Nq,cJ⟩;have ow:=ae Nq;have Cs:=aC fB.out cJ;have iC:=ae Cs;have abf:=ae (aC bH.out Cs);have Ss:=jr.out.kept cJ (by simp);have o5:w5.cell? ⟨wr.heap.size,5,none⟩=some (.int .i64 o.to):=Ss.cell 5;have o0:w5.cell? ⟨wr.heap.size,0,none⟩=some (.int .i64 o.af):=Ss.cell 0;have rm:=fB.out.size;have xu:=ow.out.lt;have s9:=ae (Nt p md o.to w5 (HP.out.Z abf.out));have Jl:Hid ((pH md o).bS=(H.cM o).map (iX md)):=rfl;have MW:Hid ((pH md o).to=iX md o.to):=rfl;have Jc:Hid ((pH md o).af=o.af):=rfl;obtain⟨s,Hs⟩:∃s,Hid (pH md o=s):=⟨_,rfl⟩;rw[Hs.out] at Jl MW Jc vJ;rw[<-Jl.out] at ow ⊢;rw[<-MW.out] at s9;have anS:Hid (dg w4.heap.size s.bS=.slice (some ⟨w4.heap.size,0,none⟩) s.bS.length s.bS.length):=rfl;rw[anS.out]
   clear Nq cJ Cs HC Ss jr;go_wp2_with fail;refine s9.out.mono ?_;rintro e w6⟨rfl,rfl⟩;clear s9;rw[<-Jc.out] at o0;have Cx:=eJ.out.kept iC.out (by simp);have c0:w6.cell? ⟨w.heap.size,k*3,none⟩=some (.int .i64 0):=by
    rw[Cx.cell];have e:=Sr (gs:=gs) (ss:=(os.take k).map (pH md)) (n:=os.length-k) (by rw[ur.out,lq.out]) (by omega) 0 (by decide);rw[lq.out,Nat.add_zero] at e
    simpa[rT] using e
   have rO:w6.cell? ⟨w.heap.size,k*3+1,none⟩=some (.slice none 0 0):=by
    rw[Cx.cell];have e:=Sr (gs:=gs) (ss:=(os.take k).map (pH md)) (n:=os.length-k) (by rw[ur.out,lq.out]) (by omega) 1 (by decide);rw[lq.out] at e
    simpa[rT] using e
   have zP:w6.cell? ⟨w.heap.size,k*3+2,none⟩=some (.int .i64 0):=by
    rw[Cx.cell];have e:=Sr (gs:=gs) (ss:=(os.take k).map (pH md)) (n:=os.length-k) (by rw[ur.out,lq.out]) (by omega) 2 (by decide);rw[lq.out] at e
    simpa[rT] using e
   have f0:=Cx.free (k*3);have f1:=Cx.free (k*3+1);have f2:=Cx.free (k*3+2);have vO:Hid (aj (((w6.setCell ⟨w.heap.size,k*3,none⟩ (.int .i64 s.af)).setCell ⟨w.heap.size,k*3+1,none⟩ (.slice (some ⟨w4.heap.size,0,none⟩) s.bS.length s.bS.length)).setCell ⟨w.heap.size,k*3+2,none⟩ (.int .i64 s.to)) w.heap.size 151 (yM (gs++[w4.heap.size]) ((os.take (k+1)).map (pH md)) (os.length-(k+1))).toArray):=by
    have e:=((Cx.set (k*3) (.int .i64 s.af)).set (k*3+1) (dg w4.heap.size s.bS)).set (k*3+2) (.int .i64 s.to);have e2:=anN (gs:=gs) (ss:=(os.take k).map (pH md)) (n:=os.length-(k+1)) (g:=w4.heap.size) (s:=s) (by rw[ur.out,lq.out]);rw[show os.length-(k+1)+1=os.length-k by omega,lq.out,<-vJ.out] at e2;rw[anO,e2] at e;exact e
   have iB:w6.grownBy (((w6.setCell ⟨w.heap.size,k*3,none⟩ (.int .i64 s.af)).setCell ⟨w.heap.size,k*3+1,none⟩ (.slice (some ⟨w4.heap.size,0,none⟩) s.bS.length s.bS.length)).setCell ⟨w.heap.size,k*3+2,none⟩ (.int .i64 s.to)) (some w.heap.size):=aC (aC (bD _ _ _ _) (bD _ _ _ _)) (bD _ _ _ _);have lk:=ae (dF abf.out iB (bj _));have Su:=aC (pd (row:=some w.heap.size) iC.out) iB;have awV:=iB.size;have anT:Hid (∀g'∈gs++[w4.heap.size],w.heap.size<g'/\g' < (((w6.setCell ⟨w.heap.size,k*3,none⟩ (.int .i64 s.af)).setCell ⟨w.heap.size,k*3+1,none⟩ (.slice (some ⟨w4.heap.size,0,none⟩) s.bS.length s.bS.length)).setCell ⟨w.heap.size,k*3+2,none⟩ (.int .i64 s.to)).heap.size):=fun g' fQ=>by
    rcases List.mem_append.mp fQ with h' | h'
    ·have:=AK.out g' h';have:=Su.size;omega
    ·rw[List.mem_singleton.mp h'];omega
   have anU:Hid ((gs++[w4.heap.size]).Pairwise (· < ·)):=List.pairwise_append.mpr ⟨Js.out,List.pairwise_singleton _ _,fun a ha b hb=>by
    rw[List.mem_singleton.mp hb];have:=AK.out a ha;omega⟩
   have anV:Hid (∀(j:Nat) g' s',(gs++[w4.heap.size])[j]?=some g'->((os.take (k+1)).map (pH md))[j]?=some s'->aj (((w6.setCell ⟨w.heap.size,k*3,none⟩ (.int .i64 s.af)).setCell ⟨w.heap.size,k*3+1,none⟩ (.slice (some ⟨w4.heap.size,0,none⟩) s.bS.length s.bS.length)).setCell ⟨w.heap.size,k*3+2,none⟩ (.int .i64 s.to)) g' 3 (s'.bS.map (Value.int .i64)).toArray):=fun j g' s' fQ jG=>by
    rw[vJ.out] at jG;by_cases cj:j<k
    ·rw[rn (by rw[lq.out];exact cj)] at fQ
     rw[rn (by rw[ur.out];exact cj)] at jG;have hb:=AK.out g' (bV fQ);exact(wY.out j g' s' fQ jG).kept Su (by simp;omega)
    ·rw[oL (by rw[lq.out];omega),lq.out] at fQ
     rw[oL (by rw[ur.out];omega),ur.out] at jG;have ej:j-k=0:=by
      rcases Nat.eq_zero_or_pos (j-k) with h' | h'
      ·exact h'
      ·rw[cX (by simp;omega)] at fQ;exact aN fQ (by simp)
     rw[ej] at fQ jG;simp at fQ jG;subst fQ jG;exact ow.out.kept iB (by simp;omega)
   clear iB Su Cx o5 ow eJ;go_wp2;go_roundw
   case rel=>exact⟨k+1,gs++[w4.heap.size],by omega,by go_num,by simp[lq.out],vO.out,anU.out,anT.out,anV.out,lk.out⟩
   case measure=>simp[intOf];omega
  ·obtain rfl:k=os.length:=by omega
   have HF:Hid (mo wr w.heap.size w.heap.size gs (lQ md)):=by
    rw[jo,Nat.sub_self] at bU;have e:=wY.out;rw[jo,<-HE.out] at e;rw[<-HE.out] at bU;exact⟨by rw[gN,HE.out,jh],by simpa[yM] using bU,bj _,Js.out,fun g' fQ=>(AK.out g' fQ).1,e⟩
   clear bU aF;go_wp2;go_ret;exact⟨⟨w.heap.size,gs,rfl,HF.out⟩,bH.out⟩
def iotaTo(cs:Array Value):Nat->Array Value
 | 0=>cs
 | k+1=>(iotaTo cs k).setIfInBounds k (.int .i64 k)
theorem abg(cs:Array Value)(k:Nat):(iotaTo cs k).size=cs.size:=by
 induction k with
 | zero=>rfl
 | succ k ih=>unfold iotaTo;rw[Array.size_setIfInBounds,ih]
theorem abh(cs:Array Value)(k i:Nat)(h:i<cs.size):(iotaTo cs k)[i]?=if i<k then some (.int .i64 i) else cs[i]?:=by
 induction k with
 | zero=>simp[iotaTo]
 | succ k ih=>
  unfold iotaTo;rw[IX,abg];by_cases e:k=i
  ·subst e
   rw[ay rfl,ay h,ay (by omega)]
  ·rw[ak e,ih]
   by_cases c:i<k
   ·rw[ay c,ay (by omega)]
   ·rw[ak c,ak (by omega)]
theorem anW(cs:Array Value):iotaTo cs cs.size=(((List.range cs.size).map fun i:Nat=>(i:Int)).map (Value.int .i64)).toArray:=by
 apply Array.ext_getElem?
 intro i;rcases cF i cs.size with c|c
 ·rw[abh cs cs.size i c,ay c,nH,dY,dY,List.getElem?_range c]
  rfl
 ·rw[Array.getElem?_eq_none (by rw[abg];omega),Array.getElem?_eq_none (by simp;omega)]
theorem anX(p:Nat)(md:M.Md)(w:World)(hP:Pl w p md) :
  Calls prog 121 #[.pointer (some ⟨p,0,none⟩)] w fun e w'=>e=.returned (.slice (some ⟨w.heap.size,0,none⟩) (gk md.au).length (gk md.au).length) /\
   aj w' w.heap.size 3 (((List.range (gk md.au).length).map fun i:Nat=>(i:Int)).map (Value.int .i64)).toArray/\w.grownBy w' none:=by
 have Cy:=hP.wf.nt;have tN:=amI md.au;obtain⟨m,an,cn,ab,cb,-,-,hB,-,-,-,-,h1⟩:=hP;have q1:w.cell? ⟨p,1,none⟩=some (.int .i64 (H.fN (pM md))):=hB.cell 1;rw[Cp h1] at q1;have s8:=hB.lt;clear hB h1;generalize (gk md.au).length=N at *;have hN:N<=255:=by omega
 clear Cy tN;obtain⟨i0,hi,cQ,cR,cZ⟩:=info_parts Tryz.oH;go_enter func121,ntmps121;go_wp2_with (at_make;refine pU _ rfl _ _ 32 rfl w.heap.size 3 i0 (.int .i64 0) 1 underlying32 hi cQ cR _ _ _ _ N rfl rfl rfl rfl ?c1 ?c2 ?c3 ?_)
 case c1=>rw[cZ];omega
 case c2=>unfold maxLen;omega
 case c3=>exact bj _
 intro w1 cB aH;have HB:=ae (wR cB);have dN:=ae aH;have ox:Hid (∀i,i<N->(List.replicate N (Value.int .i64 0)).toArray[i]?=some (.int .i64 0)):=fun i hi=>by simp[hi]
 have kS:(List.replicate N (Value.int .i64 0)).toArray.size=N:=by simp
 generalize (List.replicate N (Value.int .i64 0)).toArray=cs at *;have D9:=ae kS;clear cB hi cQ cR cZ aH kS q1;go_wp2;go_loopw[14] (fun i wr=>∃k:Nat,k<=N/\i=.int .i64 k/\Hid (aj wr w.heap.size 3 (iotaTo cs k))/\Hid (w.grownBy wr none)) (fun i _=>N-(intOf i).toNat)
 case atStart=>exact⟨0,bK _,rfl,HB.out,dN.out⟩
 case round=>
  clear HB dN;obtain⟨k,hk,rfl,eJ,bH⟩:=hrel;by_cases aK:k<N
  ·have d0:wr.cell? ⟨w.heap.size,k,none⟩=some (.int .i64 0):=by rw[eJ.out.cell k,abh _ _ _ (by rw[D9.out];exact aK),ak (by omega)];exact ox.out k aK
   have f0:=eJ.out.free k;have dh:=eJ.out.lt;have iV:Hid (aj (wr.setCell ⟨w.heap.size,k,none⟩ (.int .i64 k)) w.heap.size 3 (iotaTo cs (k+1))):=eJ.out.set k (.int .i64 k);have dZ:=ae (dF bH.out (bD wr w.heap.size k (.int .i64 k)) (bj _));clear eJ bH;go_wp2;go_roundw
   case rel=>exact⟨k+1,by omega,by go_num,iV.out,dZ.out⟩
   case measure=>simp[intOf];omega
  ·obtain rfl:k=N:=by omega
   have HF:=ae eJ.out;have e:=anW cs;rw[D9.out] at e;rw[e] at HF;clear eJ e;go_wp2;go_ret;exact⟨rfl,HF.out,bH.out⟩
theorem anY(p:Nat)(md:M.Md)(w:World)(hP:Pl w p md) :
  Calls prog 122 #[.pointer (some ⟨p,0,none⟩)] w fun e w'=>e=.returned (dg w.heap.size ((pM md).aJ.map (iX md)))/\aj w' w.heap.size 3 (((pM md).aJ.map (iX md)).map (Value.int .i64)).toArray/\w.grownBy w' none:=by
 have HP:=ae hP;obtain⟨m,an,cn,ab,cb,-,-,hB,hM,-,-,-,h1⟩:=hP;obtain⟨C,S⟩:=Fq h1;have hu:=S.nu;have q0:w.cell? ⟨p,0,none⟩=some (.pointer (some ⟨m,0,none⟩)):=hB.cell 0;obtain⟨a1,c1,a2,c2,a3,c3,qQ,-,-,hU⟩:=hM;have m2:w.cell? ⟨m,2,none⟩=some (.slice a3 (pM md).aJ.length c3):=qQ.cell 2;have HC:=ae (Z7 p md (m+1) a3 (pM md).aJ.length c3 (pM md).aJ w HP.out hU hu);have s8:=hB.lt;have pX:=qQ.lt;clear hB qQ hU h1 S;generalize (pM md).aJ=us at *;go_enter func122,ntmps122;go_wp2_with fail;refine HC.out.mono ?_;rintro e w1⟨rfl,hb,hg⟩;have HB:=ae hb;have HG:=ae hg;clear hb hg HC;unfold dg;go_wp2;go_ret;exact⟨by unfold dg;rw[jh];rfl,HB.out,HG.out⟩
theorem anZ{P:Program}(w:World)(dT sT ty elem:TypeId)(g n an0:Nat)(a:Addr)(an1 size:Nat)(dV:Array Value)(t:TypeId)(cs:List Value)
  (hu:P.underlying dT=some (.slice elem)) (hs:(P.info? elem).map (·.size)=some size)
  (hg:w.heap[g]?=some (.cells dV t (0,0))) (hn:cs.length=n*size)
  (an2:∀j v,cs[j]?=some v->w.cell? (a.add j)=some v) (an3:cs.length<=dV.size) (h1:∀v∈cs,v.oneCell'=true) :
  (Builtin.copy_ #[dT,sT] ty #[.slice (some ⟨g,0,none⟩) n an0,.slice (some a) n an1]).run P w =
   .ok (goInt n) (w.setRow g (dV.toList.take 0++cs++dV.toList.drop (0+cs.length)).toArray):=by
 have hl:=run_loadCells_list (P:=P) w a cs an2;have cC:=run_storeCells_at P g 0 t cs 0 dV w hg (by simpa using an3) h1;have hm:Nat.min n n=n:=Nat.min_self n
 cases hq:P.info? elem with
 | none=>simp[hq] at hs
 | some i=>
  have hi:i.size=size:=by simpa[hq] using hs
  simp[Builtin.copy_,run_underlying hu,Builtin.lenOf,Builtin.firstCells,sizeOf,typeInfo,hq,hi,hm,<-hn,hl,cC]
theorem an4(p:Nat)(md:M.Md)(w:World)(hP:Pl w p md)(hn:(pB md).length<=1000) :
  Calls prog 119 #[.pointer (some ⟨p,0,none⟩)] w fun e w'=>e=.returned (.slice (some ⟨w.heap.size,0,none⟩) (pB md).length (pB md).length) /\
   aj w' w.heap.size 116 ((pB md).flatMap gj).toArray/\w.grownBy w' none:=by
 obtain⟨m,an,cn,ab,cb,-,-,hB,-,-,hF,-,h1⟩:=hP;have q3:w.cell? ⟨p,3,none⟩=some (.slice ab (pB md).length cb):=hB.cell 3;have s8:=hB.lt;have HF:=ae hF;have HB:=ae hB;clear hF h1 hB;have mn:Hid (((pB md).flatMap gj).length=(pB md).length*2):=HF.out.1;generalize E2:pB md=bs at *;clear E2;obtain⟨i0,hi,cQ,cR,cZ⟩:=info_parts Tryz.RM;have jm:(prog.info? 116).map (·.size)=some 2:=by rw[hi];simp[cR]
 have Cr:=ae jm;clear jm;go_enter func119,ntmps119;go_wp2_with (at_make;refine pU _ rfl _ _ 74 rfl w.heap.size 116 i0 (.agg #[.int .i64 0,.int .i64 0]) 2 underlying74 hi cQ cR _ _ _ _ bs.length rfl rfl rfl rfl ?c1 ?c2 ?c3 ?_)
 case c1=>rw[cZ];omega
 case c2=>unfold maxLen;omega
 case c3=>exact bj _
 intro w1 cB aH;have q3b:w1.cell? ⟨p,3,none⟩=some (.slice ab bs.length cb):=aG aH q3;have Eh:=ae (eW HF.out aH);obtain⟨dV,NP,JF⟩:∃dV:Array Value,w1.heap[w.heap.size]?=some (.cells dV 116 (0,0))/\dV.size=bs.length*2:=by
  rcases cB.2 with⟨h',_⟩|⟨g',Ll,dV,h',_,hg,_,_,hz,-⟩
  ·simp at h'
  ·simp only[Value.slice.injEq,j8,oI,and_true,true_and] at h'
   obtain⟨rfl,rfl⟩:=h';exact⟨dV,hg,hz⟩
 obtain⟨w2,hr,fA,Jr⟩:∃w2,(Builtin.copy_ #[74,74] 3 #[.slice (some ⟨w.heap.size,0,none⟩) bs.length bs.length,.slice ab bs.length cb]).run prog w1=.ok (goInt bs.length) w2/\aj w2 w.heap.size 116 (bs.flatMap gj).toArray/\w.grownBy w2 none:=by
  by_cases h0:bs.length=0
  ·have e:bs=[]:=List.eq_nil_of_length_eq_zero h0
   subst e;have Iy:ab=none\/∃a,ab=some a:=by cases ab;exact .inl rfl;exact .inr ⟨_,rfl⟩
   have ec:dV=#[]:=Array.eq_empty_of_size_eq_zero (by simpa using JF);subst ec;have rU:=fun x:Addr=>run_loadCells_list (P:=prog) w1 x [] (by simp);refine⟨w1,?_,NP,aH⟩;rcases Iy with rfl|⟨a,rfl⟩
   ·simp[Builtin.copy_,run_underlying underlying74,Builtin.lenOf,Builtin.firstCells,sizeOf,typeInfo,hi,storeCells]
   ·have sX:=rU a
    simp at sX;simp[Builtin.copy_,run_underlying underlying74,Builtin.lenOf,Builtin.firstCells,sizeOf,typeInfo,hi,storeCells,sX]
  ·obtain⟨g,rfl,-,-,kS⟩:=nZ Eh.out (by omega)
   have Nw:=anZ (P:=prog) w1 74 74 3 116 w.heap.size bs.length bs.length ⟨g,0,none⟩ cb 2 dV 116 (bs.flatMap gj) underlying74 Cr.out NP mn.out (fun j v hv=>by
    have e:(⟨g,0,none⟩:Addr).add j=⟨g,j,none⟩:=by unfold Addr.add;split<;>simp_all
    rw[e,kS j (by have:=(List.getElem?_eq_some_iff.1 hv).1;have:=mn.out;omega)];exact hv) (by rw[mn.out,JF];exact bj _) (by intro v hv;obtain⟨x,-,hx⟩:=List.mem_flatMap.mp hv;unfold gj at hx;simp at hx;rcases hx with rfl|rfl<;>rfl)
   refine⟨_,Nw,?_,Bn (below_setRow (GD aH) (bj _) _)⟩;unfold aj;rw[setRow_heap w1 w.heap.size _ _ _ _ NP];have hd:dV.toList.drop (0+(bs.flatMap gj).length)=[]:=List.drop_eq_nil_of_le (by rw[Array.length_toList,JF,mn.out];omega);rw[hd];simp
 have iV:=ae fA;have dZ:=ae Jr;clear fA Jr aH HB HF Eh cB NP JF hi cQ cR cZ q3;go_wp2;go_ret;exact⟨rfl,iV.out,dZ.out⟩
theorem Tryz.uy:(prog.info? 132).map (·.size)=some 5:=by kernel_rfl
theorem mo.kept{w w':World}{B G T:Nat}{gs:List Nat}{ss:List Sp}(h:mo w B G gs ss)(hg:w.grownBy w' (some T))(hT:T<B):mo w' B G gs ss:=
 ⟨h.len,h.out.kept hg (by have:=h.base;simp;omega),h.base,h.AH,h.aS,fun i g s hi hs=>(h.gF i g s hi hs).kept hg (by have h1:=h.base;have h2:=h.aS g (bV hi);simp;omega)⟩
theorem mo.Z{w w':World}{B G:Nat}{gs:List Nat}{ss:List Sp}(h:mo w B G gs ss)(hg:w.grownBy w' none):mo w' B G gs ss:=
 ⟨h.len,h.out.kept hg (by simp),h.base,h.AH,h.aS,fun i g s hi hs=>(h.gF i g s hi hs).kept hg (by simp)⟩
theorem mo.lt{w:World}{B G:Nat}{gs:List Nat}{ss:List Sp}(h:mo w B G gs ss):G<w.heap.size/\∀g∈gs,g<w.heap.size:=by
 refine⟨h.out.lt,fun g hg=>?_⟩;obtain⟨i,hi⟩:=mM hg;have hl:i<gs.length:=(List.getElem?_eq_some_iff.1 hi).1;obtain⟨s,hs⟩:∃s,ss[i]?=some s:=⟨_,aT (by rw[<-h.len];exact hl)⟩;exact(h.gF i g s hi hs).lt
theorem an5(p:Nat)(md:M.Md)(w:World)(hP:Pl w p md)(hn:(pB md).length<=1000) :
  Calls prog 74 #[.pointer (some ⟨p,0,none⟩)] w fun e w'=>∃g0 G gs g2 g3,e=.returned (.agg #[.slice (some ⟨g0,0,none⟩) (pB md).length (pB md).length,.slice (some ⟨G,0,none⟩) (pM md).ag.length (pM md).ag.length,.slice (some ⟨g2,0,none⟩) (gk md.au).length (gk md.au).length,dg g3 ((pM md).aJ.map (iX md)),.int .i64 0]) /\
   w.heap.size<=g0/\g0<G/\(∀g∈gs,g<g2)/\G<g2/\g2<g3/\aj w' g0 116 ((pB md).flatMap gj).toArray/\mo w' (w.heap.size+3) G gs (lQ md) /\
   aj w' g2 3 (((List.range (gk md.au).length).map fun i:Nat=>(i:Int)).map (Value.int .i64)).toArray/\aj w' g3 3 (((pM md).aJ.map (iX md)).map (Value.int .i64)).toArray/\w.grownBy w' none:=by
 have HP:=ae hP;have Hn:=ae hn;have yN:((w.alloc (.cells #[.slice none 0 0,.slice none 0 0,.slice none 0 0,.slice none 0 0,.int .i64 0] 132)).alloc (.cells #[.slice none 0 0,.slice none 0 0,.slice none 0 0,.slice none 0 0,.int .i64 0] 132)).heap.size=w.heap.size+2:=by simp
 have G0:=ae (nT w (.cells #[.slice none 0 0,.slice none 0 0,.slice none 0 0,.slice none 0 0,.int .i64 0] 132) (.cells #[.slice none 0 0,.slice none 0 0,.slice none 0 0,.slice none 0 0,.int .i64 0] 132) none);have BA:=ae ((aj.bB w 132 #[.slice none 0 0,.slice none 0 0,.slice none 0 0,.slice none 0 0,.int .i64 0]).alloc (.cells #[.slice none 0 0,.slice none 0 0,.slice none 0 0,.slice none 0 0,.int .i64 0] 132));have BT:=ae (aj.yg w (.cells #[.slice none 0 0,.slice none 0 0,.slice none 0 0,.slice none 0 0,.int .i64 0] 132) 132 #[.slice none 0 0,.slice none 0 0,.slice none 0 0,.slice none 0 0,.int .i64 0]);obtain⟨W0,qj⟩:∃W,Hid (((w.alloc (.cells #[.slice none 0 0,.slice none 0 0,.slice none 0 0,.slice none 0 0,.int .i64 0] 132)).alloc (.cells #[.slice none 0 0,.slice none 0 0,.slice none 0 0,.slice none 0 0,.int .i64 0] 132))=W):=⟨_,rfl⟩;rw[qj.out] at yN G0 BA BT;clear hP hn;go_enter func74,ntmps74;go_wp2_with fail;rw[qj.out];refine(an4 p md W0 (HP.out.Z G0.out) Hn.out).mono ?_;rintro e q1⟨rfl,xC,hg⟩;rw[yN] at xC ⊢;have T1:=BT.out.kept hg (by simp);have t1:q1.cell? ⟨w.heap.size+1,0,none⟩=some (.slice none 0 0):=T1.cell 0;have f1:=T1.free 0;have l1:=T1.lt;have cC:=bD q1 (w.heap.size+1) 0 (.slice (some ⟨w.heap.size+2,0,none⟩) (pB md).length (pB md).length);have vK:=ae (T1.set 0 (.slice (some ⟨w.heap.size+2,0,none⟩) (pB md).length (pB md).length));have xD:=ae ((BA.out.kept hg (by simp)).kept cC (by simp));have lR:=ae (xC.kept cC (by simp));have dN:=ae (dF (aC G0.out hg) cC (by omega));have cR:w.heap.size+3<=q1.heap.size:=by have:=xC.lt;omega
 obtain⟨r1,yO⟩:∃r,Hid (q1.setCell ⟨w.heap.size+1,0,none⟩ (.slice (some ⟨w.heap.size+2,0,none⟩) (pB md).length (pB md).length)=r):=⟨_,rfl⟩;have xE:r1.heap.size=q1.heap.size:=by rw[<-yO.out];simp
 rw[yO.out] at vK xD lR dN;clear xC hg T1 cC BT BA G0;go_wp2_with fail;rw[yO.out];refine(anQ p md r1 (HP.out.Z dN.out)).mono ?_;rintro e q2⟨⟨G,gs,rfl,hS⟩,hg⟩;have S2:mo q2 (w.heap.size+3) G gs (lQ md):=⟨hS.len,hS.out,by have:=hS.base;omega,hS.AH,hS.aS,hS.gF⟩;have T2:=vK.out.kept hg (by simp);have t2:q2.cell? ⟨w.heap.size+1,1,none⟩=some (.slice none 0 0):=T2.cell 1;have f2:=T2.free 1;have l2:=T2.lt;obtain⟨nS,NQ⟩:∃n,Hid ((pM md).ag.length=n):=⟨_,rfl⟩;rw[NQ.out];have cC:=bD q2 (w.heap.size+1) 1 (.slice (some ⟨G,0,none⟩) nS nS);have rV:=ae (T2.set 1 (.slice (some ⟨G,0,none⟩) nS nS));have mS:=ae ((xD.out.kept hg (by simp)).kept cC (by simp));have iV:=ae ((lR.out.kept hg (by simp)).kept cC (by simp));have hZ:=ae (S2.kept cC (by omega));have dZ:=ae (dF (aC dN.out hg) cC (by omega));have cZ:=S2.lt;obtain⟨r2,yP⟩:∃r,Hid (q2.setCell ⟨w.heap.size+1,1,none⟩ (.slice (some ⟨G,0,none⟩) nS nS)=r):=⟨_,rfl⟩;have yQ:r2.heap.size=q2.heap.size:=by rw[<-yP.out];simp
 rw[yP.out] at rV mS iV hZ dZ;have HZ2:=ae cZ;have hG0:=ae hS.base;clear hS S2 hg T2 cC vK xD lR dN t1 f1 cZ;go_wp2_with fail;rw[yP.out];refine(anX p md r2 (HP.out.Z dZ.out)).mono ?_;rintro e q3⟨rfl,NR,hg⟩;rw[yQ] at NR ⊢;have T3:=rV.out.kept hg (by simp);have t3:q3.cell? ⟨w.heap.size+1,2,none⟩=some (.slice none 0 0):=T3.cell 2;have f3:=T3.free 2;have l3:=T3.lt;obtain⟨nI,NS⟩:∃n,Hid ((gk md.au).length=n):=⟨_,rfl⟩;rw[NS.out];have cC:=bD q3 (w.heap.size+1) 2 (.slice (some ⟨q2.heap.size,0,none⟩) nI nI);have qU:=ae (T3.set 2 (.slice (some ⟨q2.heap.size,0,none⟩) nI nI));have mT:=ae ((mS.out.kept hg (by simp)).kept cC (by simp));have fZ:=ae ((iV.out.kept hg (by simp)).kept cC (by simp));have lA:=ae ((hZ.out.Z hg).kept cC (by omega));have mi:=ae (NR.kept cC (by simp;omega));have fW:=ae (dF (aC dZ.out hg) cC (by omega));have hz3:=NR.lt;obtain⟨r3,JG⟩:∃r,Hid (q3.setCell ⟨w.heap.size+1,2,none⟩ (.slice (some ⟨q2.heap.size,0,none⟩) nI nI)=r):=⟨_,rfl⟩;have hr3:r3.heap.size=q3.heap.size:=by rw[<-JG.out];simp
 rw[JG.out] at qU mT fZ lA mi fW;clear NR hg T3 cC rV mS iV hZ dZ t2 f2;go_wp2_with fail;rw[JG.out];refine(anY p md r3 (HP.out.Z fW.out)).mono ?_;rintro e q4⟨rfl,Ei,hg⟩;rw[hr3] at Ei ⊢;have T4:=qU.out.kept hg (by simp);have t4:q4.cell? ⟨w.heap.size+1,3,none⟩=some (.slice none 0 0):=T4.cell 3;have f4:=T4.free 3;have l4:=T4.lt;obtain⟨ov,te⟩:∃v,Hid (dg q3.heap.size ((pM md).aJ.map (iX md))=v):=⟨_,rfl⟩;have JH:ov=.slice (some ⟨q3.heap.size,0,none⟩) ((pM md).aJ.map (iX md)).length ((pM md).aJ.map (iX md)).length:=te.out.symm;obtain⟨nO,HnO⟩:∃n,Hid (((pM md).aJ.map (iX md)).length=n):=⟨_,rfl⟩;rw[HnO.out] at JH;subst JH;rw[te.out];have cC:=bD q4 (w.heap.size+1) 3 (.slice (some ⟨q3.heap.size,0,none⟩) nO nO);have Nc:Hid (aj (q4.setCell ⟨w.heap.size+1,3,none⟩ (.slice (some ⟨q3.heap.size,0,none⟩) nO nO)) (w.heap.size+1) 132 #[.slice (some ⟨w.heap.size+2,0,none⟩) (pB md).length (pB md).length,.slice (some ⟨G,0,none⟩) nS nS,.slice (some ⟨q2.heap.size,0,none⟩) nI nI,.slice (some ⟨q3.heap.size,0,none⟩) nO nO,.int .i64 0]):=T4.set 3 (.slice (some ⟨q3.heap.size,0,none⟩) nO nO);have qV:=ae ((mT.out.kept hg (by simp)).kept cC (by simp));have jr:=ae ((fZ.out.kept hg (by simp)).kept cC (by simp));have kE:=ae ((lA.out.Z hg).kept cC (by omega));have kl:=ae ((mi.out.kept hg (by simp)).kept cC (by simp;omega));have HU4:=ae (Ei.kept cC (by simp;omega));have fB:=ae (dF (aC fW.out hg) cC (by omega));obtain⟨r4,FB⟩:∃r,Hid (q4.setCell ⟨w.heap.size+1,3,none⟩ (.slice (some ⟨q3.heap.size,0,none⟩) nO nO)=r):=⟨_,rfl⟩;rw[FB.out] at Nc qV jr kE kl HU4 fB;clear Ei hg T4 cC qU mT fZ lA mi fW t3 f3
 have Ec:=ae (setRow_heap r4 w.heap.size _ #[.slice (some ⟨w.heap.size+2,0,none⟩) (pB md).length (pB md).length,.slice (some ⟨G,0,none⟩) nS nS,.slice (some ⟨q2.heap.size,0,none⟩) nI nI,.slice (some ⟨q3.heap.size,0,none⟩) nO nO,.int .i64 0] 132 _ qV.out);have g5:=vb r4 w.heap.size #[.slice (some ⟨w.heap.size+2,0,none⟩) (pB md).length (pB md).length,.slice (some ⟨G,0,none⟩) nS nS,.slice (some ⟨q2.heap.size,0,none⟩) nI nI,.slice (some ⟨q3.heap.size,0,none⟩) nO nO,.int .i64 0];have ow:=ae (jr.out.kept g5 (by simp));have vT:=ae (kE.out.kept g5 (by omega));have rL:=ae (kl.out.kept g5 (by simp;omega));have HU5:=ae (HU4.out.kept g5 (by simp;omega));have iC:=ae (dF fB.out g5 (bj _));clear g5;go_wp2_with (first|(rw[FB.out];refine dj rfl 132 _ rfl (w.heap.size+1) rfl 132 #[.slice (some ⟨w.heap.size+2,0,none⟩) (pB md).length (pB md).length,.slice (some ⟨G,0,none⟩) nS nS,.slice (some ⟨q2.heap.size,0,none⟩) nI nI,.slice (some ⟨q3.heap.size,0,none⟩) nO nO,.int .i64 0] (0,0) _ Nc.out underlying132 rfl Tryz.uy ?_)|(refine aaY rfl 132 _ _ rfl w.heap.size #[.slice (some ⟨w.heap.size+2,0,none⟩) (pB md).length (pB md).length,.slice (some ⟨G,0,none⟩) nS nS,.slice (some ⟨q2.heap.size,0,none⟩) nI nI,.slice (some ⟨q3.heap.size,0,none⟩) nO nO,.int .i64 0] rfl rfl 132 #[.slice none 0 0,.slice none 0 0,.slice none 0 0,.slice none 0 0,.int .i64 0] qV.out Tryz.uy rfl (by simp[Value.oneCell']) ?_));refine bodyPost_ret (v:=.agg #[.slice (some ⟨w.heap.size+2,0,none⟩) (pB md).length (pB md).length,.slice (some ⟨G,0,none⟩) nS nS,.slice (some ⟨q2.heap.size,0,none⟩) nI nI,.slice (some ⟨q3.heap.size,0,none⟩) nO nO,.int .i64 0]) ?hr rfl ?_
 case hr=>exact results_cell_row Tryz.results74 _ _ w.heap.size 132 _ (0,0) _ rfl Ec.out underlying132 rfl Tryz.uy
 exact⟨w.heap.size+2,G,gs,q2.heap.size,q3.heap.size,by rw[NQ.out,NS.out,te.out],by omega,by have:=hG0.out;omega,HZ2.out.2,HZ2.out.1,by omega,ow.out,vT.out,by rw[NS.out];rw[NS.out] at rL;exact rL.out,HU5.out,iC.out⟩
namespace T
def sumTo(bs:List H.Bf):Nat->Int
 | 0=>0
 | k+1=>sumTo bs k+(bs.getD k H.aV).c
def tf(l:List Lf)(bs:List H.Bf)(t:Int):Nat->Int
 | 0=>0
 | k+1=>if (l.getD k no).f<=t/\t<=(l.getD k no).t then tf l bs t k+(bs.getD k H.aV).c else tf l bs t k
structure NT(l:List Lf)(bs:List H.Bf)(size:Int):Prop where
 len:l.length=bs.length
 oX:bs.length<=64
 bG:∀i,i<bs.length->0<=(bs.getD i H.aV).a/\1<=(bs.getD i H.aV).c/\(bs.getD i H.aV).c<=512/\(bs.getD i H.aV).e<=100000
 apart:∀i j,i<bs.length->j<i->¬(((l.getD i no).f<=(l.getD j no).t/\(l.getD j no).f<=(l.getD i no).t)/\(bs.getD i H.aV).a<(bs.getD j H.aV).e/\(bs.getD j H.aV).a<(bs.getD i H.aV).e)
 Sv:∀t,tf l bs t bs.length<=size
 awX:size=H.gR bs
 sum:size<=sumTo bs bs.length
def lh(b:H.Bf)(p:Int):Int:=if b.a<=p/\p<b.e then 1 else 0
def row(b:H.Bf):Nat->Int
 | 0=>0
 | p+1=>row b p+lh b p
theorem abm(b:H.Bf)(h0:0<=b.a)(h1:0<=b.c):∀p:Nat,row b p=if (p:Int)<=b.a then 0 else if (p:Int)<=b.e then p-b.a else b.c
 | 0=>by
  unfold row;rw[ay (by omega)]
 | p+1=>by
  have ih:=abm b h0 h1 p;unfold row lh;rw[ih];have he:b.e=b.a+b.c:=rfl;by_cases c1:(p:Int)<=b.a
  ·rw[ay c1]
   by_cases c2:((p+1:Nat):Int)<=b.a
   ·rw[ay c2,ak (by omega)];omega
   ·rw[ak c2]
    by_cases c3:((p+1:Nat):Int)<=b.e
    ·rw[ay c3,ay (by omega)];omega
    ·rw[ak c3,ak (by omega)];omega
  ·rw[ak c1,ak (show ¬((p+1:Nat):Int)<=b.a by omega)]
   by_cases c2:(p:Int)<=b.e
   ·rw[ay c2]
    by_cases c3:((p+1:Nat):Int)<=b.e
    ·rw[ay c3,ay (by omega)];omega
    ·rw[ak c3,ak (by omega)];omega
   ·rw[ak c2,ak (show ¬((p+1:Nat):Int)<=b.e by omega),ak (by omega)];omega
def yR(l:List Lf)(bs:List H.Bf)(t p:Int):Nat->Int
 | 0=>0
 | k+1=>if (l.getD k no).f<=t/\t<=(l.getD k no).t then yR l bs t p k+lh (bs.getD k H.aV) p else yR l bs t p k
def kz(l:List Lf)(bs:List H.Bf)(t:Int)(k:Nat):Nat->Int
 | 0=>0
 | p+1=>kz l bs t k p+yR l bs t p k
theorem abn(l:List Lf)(bs:List H.Bf)(t:Int)(k:Nat):∀p,kz l bs t (k+1) p=if (l.getD k no).f<=t/\t<=(l.getD k no).t then kz l bs t k p+row (bs.getD k H.aV) p else kz l bs t k p
 | 0=>by unfold kz row;split<;>rfl
 | p+1=>by
  unfold kz row;rw[abn l bs t k p]
  conv=>lhs;rhs;unfold yR
  split<;>omega
theorem MG(l:List Lf)(bs:List H.Bf)(t:Int):∀p,kz l bs t 0 p=0
 | 0=>rfl
 | p+1=>by unfold kz;rw[MG l bs t p];rfl
theorem abo{l:List Lf}{bs:List H.Bf}{t:Int}{E:Nat}:∀k,(∀i,i<k->0<=(bs.getD i H.aV).a/\0<=(bs.getD i H.aV).c/\(bs.getD i H.aV).e<=E)->tf l bs t k=kz l bs t k E
 | 0,_=>by rw[MG];rfl
 | k+1,h=>by
  have ih:=abo (l:=l) (t:=t) k fun i hi=>h i (by omega);rw[abn];unfold tf;obtain⟨h0,h1,h2⟩:=h k (by omega);have e:=abm (bs.getD k H.aV) h0 h1 E;have he:(bs.getD k H.aV).e=(bs.getD k H.aV).a+(bs.getD k H.aV).c:=rfl;have e':row (bs.getD k H.aV) E=(bs.getD k H.aV).c:=by
   rw[e]
   split
   ·omega
   ·split<;>omega
  rw[ih,e']
theorem abp{l:List Lf}{bs:List H.Bf}{t p:Int}:∀k,(∀i j,i<k->j<i->¬(((l.getD i no).f<=(l.getD j no).t/\(l.getD j no).f<=(l.getD i no).t)/\(bs.getD i H.aV).a<(bs.getD j H.aV).e/\(bs.getD j H.aV).a<(bs.getD i H.aV).e)) ->
  (0<=yR l bs t p k/\yR l bs t p k<=1)/\(yR l bs t p k=1->∃j,j<k/\((l.getD j no).f<=t/\t<=(l.getD j no).t)/\(bs.getD j H.aV).a<=p/\p<(bs.getD j H.aV).e)
 | 0,_=>⟨⟨Int.le_refl _,by show(0:Int)<=1;decide⟩,fun h=>aN h (by show ¬((0:Int)=1);decide)⟩
 | k+1,h=>by
  obtain⟨⟨i0,i1⟩,i2⟩:=abp (l:=l) (bs:=bs) (t:=t) (p:=p) k fun i j hi hj=>h i j (by omega) hj;unfold yR;by_cases c:(l.getD k no).f<=t/\t<=(l.getD k no).t
  ·rw[ay c]
   unfold lh;by_cases d:(bs.getD k H.aV).a<=p/\p<(bs.getD k H.aV).e
   ·rw[ay d]
    have z:yR l bs t p k≠1:=by
     intro e;obtain⟨j,hj,lj,pj⟩:=i2 e;exact h k j (by omega) hj ⟨⟨by omega,by omega⟩,by omega,by omega⟩
    exact⟨⟨by omega,by omega⟩,fun _=>⟨k,by omega,c,d⟩⟩
   ·rw[ak d]
    refine⟨⟨by omega,by omega⟩,fun e=>?_⟩;obtain⟨j,hj,hh⟩:=i2 (by omega);exact⟨j,by omega,hh⟩
  ·rw[ak c]
   refine⟨⟨i0,i1⟩,fun e=>?_⟩;obtain⟨j,hj,hh⟩:=i2 e;exact⟨j,by omega,hh⟩
theorem abq{l:List Lf}{bs:List H.Bf}{t:Int}{k:Nat}(h:∀p,yR l bs t p k<=1):∀p:Nat,kz l bs t k p<=p
 | 0=>Int.le_refl _
 | p+1=>by
  have:=abq (l:=l) (bs:=bs) (t:=t) (k:=k) h p;have:=h p;unfold kz;omega
theorem abr(x:H.Bf)(bs:List H.Bf):∀k,sumTo (x::bs) (k+1)=x.c+sumTo bs k
 | 0=>by show(0:Int)+x.c=x.c+0;omega
 | k+1=>by
  have ih:=abr x bs k;show sumTo (x::bs) (k+1)+(bs.getD k H.aV).c=x.c+(sumTo bs k+(bs.getD k H.aV).c);omega
theorem abt:∀bs:List H.Bf,sumTo bs bs.length=H.sumC bs
 | []=>rfl
 | x::bs=>by rw[qe,abr,abt bs];rfl
theorem Sw{bs:List H.Bf}(h:∀i,i<bs.length->(bs.getD i H.aV).c<=512):∀k,k<=bs.length->sumTo bs k<=512*k
 | 0,_=>by show(0:Int)<=512*((0:Nat):Int);decide
 | k+1,hk=>by
  have:=Sw h k (by omega);have:=h k (by omega);unfold sumTo;omega
theorem an9{m:M.Md}{C:List (List Int)}(S:H.dH m C)(hI:H.fN m<=24):NT ((H.nE m).lv.map lf) (H.eZ (H.nE m).lv) (H.gR (H.eZ (H.nE m).lv)):=by
 have P:=H.Ag S;have Ly:=(H.Fg S).L;have on:=P.lh S;have hl:=P.ll;have wZ:=S.no;generalize H.nE m=d at *;generalize H.eZ d.lv=bs at *;have len:=Ly.len;have gl:∀i,i<d.lv.length->(d.lv.map lf).getD i no=lf (d.lv.getD i H.bQ):=by
  intro i hi;rw[List.getD,dY,List.getD,aT hi];rfl
 have abu:∀i,i<bs.length->(bs.getD i H.aV).c<=512:=fun i hi=>by rw[Ly.c i (by omega)];exact(on i (by omega)).2
 have awY:=Sw abu bs.length (bj _);have es:=abt bs;have DI:=Ly.sum;have ap:∀i j,i<bs.length->j<i->¬((((d.lv.map lf).getD i no).f<=((d.lv.map lf).getD j no).t/\((d.lv.map lf).getD j no).f<=((d.lv.map lf).getD i no).t)/\(bs.getD i H.aV).a<(bs.getD j H.aV).e/\(bs.getD j H.aV).a<(bs.getD i H.aV).e):=by
  intro i j hi hj;rw[gl i (by omega),gl j (by omega)];rintro ⟨⟨h1,h2⟩,h3,h4⟩;have yt:(d.lv.getD i H.bQ).f-1<=(d.lv.getD j H.bQ).t-1:=h1;have h2':(d.lv.getD j H.bQ).f-1<=(d.lv.getD i H.bQ).t-1:=h2;have:=Ly.apart i j (by omega) (by omega) (by omega) (by unfold H.mN;rw[fh,decide_eq_true_eq,decide_eq_true_eq];omega);omega
 refine⟨by simp[len],by omega,fun i hi=>⟨Ly.a i (by omega),?_,abu i hi,?_⟩,ap,fun t=>?_,rfl,by rw[es];exact DI⟩
 ·rw[Ly.c i (by omega)];exact(on i (by omega)).1
 ·have:=Ly.BX i (by omega)
  omega
 ·have hE:0<=H.gR bs:=H.BW _ _
  rw[abo (E:=(H.gR bs).toNat) bs.length fun i hi=>⟨Ly.a i (by omega),by rw[Ly.c i (by omega)];have:=(on i (by omega)).1;omega,by have:=Ly.BX i (by omega);omega⟩];have:=abq (l:=d.lv.map lf) (bs:=bs) (t:=t) (k:=bs.length) (fun p=>(abp bs.length ap).1.2) (H.gR bs).toNat;omega
def oy(ss:List Sp)(v:Int):Nat->Nat
 | 0=>0
 | j+1=>match ss[j]? with
  | some s=>oy ss v j+s.bS.count v
  | none=>oy ss v j
def uz(ss:List Sp)(v:Int):Nat->Bool
 | 0=>false
 | j+1=>match ss[j]? with
  | some s=>uz ss v j||(s.bS.contains v&&s.af==7)
  | none=>uz ss v j
def NU(ss:List Sp)(us:List Int):Prop:=∀(i:Nat) s,ss[i]?=some s->us.count s.to+oy ss s.to ss.length≠0/\¬(us.count s.to+oy ss s.to ss.length=1/\uz ss s.to ss.length=true/\s.af<=7)
theorem Sx{f:Int->Int}{v:Int}:∀(xs:List Int),(∀x∈xs,f x=f v->x=v)->(xs.map f).count (f v)=xs.count v
 | [],_=>rfl
 | x::xs,h=>by
  rw[List.map_cons,List.count_cons,List.count_cons,Sx xs fun y hy=>h y (sL _ hy)];by_cases e:x=v
  ·subst e;simp
  ·have:f x≠f v:=fun e'=>e (h x pq e')
   simp[e,this]
theorem abv{m:M.Md}{v:Int}(h:∀o∈m.ag,∀n∈H.cM o,fm m n=fm m v->n=v):∀j,j<=m.ag.length->oy (gS m) (fm m v) j=H.iO (m.ag.take j) v
 | 0,_=>by simp[oy,H.iO]
 | j+1,hj=>by
  have hx:m.ag[j]?=some m.ag[j]:=aT (by omega);generalize m.ag[j]=o at hx;have hs:(gS m)[j]?=some (sp m o):=by unfold gS;rw[dY,hx];rfl
  rw[oy,hs,H.kj hx];show oy (gS m) (fm m v) j+((H.cM o).map (fm m)).count (fm m v)=_;rw[Sx _ (h o (bV hx)),abv h j (by omega)];unfold H.iO;rw[List.flatMap_append,List.count_append];simp
theorem Sy{ss:List Sp}{v:Int}:∀j,uz ss v j=true->∃(i:Nat) (s:Sp),ss[i]?=some s/\v∈s.bS/\s.af=7
 | 0,h=>aN h (by simp[uz])
 | j+1,h=>by
  unfold uz at h
  cases e:ss[j]? with
  | none=>rw[e] at h;exact Sy j h
  | some s=>
   rw[e] at h;have h:(uz ss v j||(s.bS.contains v&&s.af==7))=true:=h;rw[Bool.or_eq_true] at h;rcases h with h|h
   ·exact Sy j h
   ·simp at h
    exact⟨j,s,e,h.1,h.2⟩
theorem aoa{m:M.Md}{C:List (List Int)}(S:H.dH m C)(hw:(∀o∈m.ag,H.cH m o.to≠0)/\(∀c∈m.ag,∀t∈m.ag,c.af=7->H.sO t=true->t.to=c.a->H.cH m t.to≠1))(hk:∀o∈m.ag,1<=o.af):NU (gS m) (aJ m):=by
 intro i s hs;unfold gS at hs;rw[dY] at hs;obtain⟨o,ho,rfl⟩:=Option.map_eq_some_iff.mp hs;have P:=H.Ag S;obtain⟨t0,t1,t3⟩:=S.to o (bV ho);have eb:fm m o.to=((H.fN m+i:Nat):Int):=by
  unfold fm;rw[ak (by rw[P.ln];omega),(P.n1 i o ho).1];omega
 have inj:∀n:Int,0<=n->n<m.au.length->fm m n=fm m o.to->n=o.to:=by
  intro n n0 n1 e;rw[eb] at e;have e':(H.nE m).aW.getD n.toNat 0=((H.fN m+i:Nat):Int):=by
   unfold fm at e;rw[ak (by rw[P.ln];omega)] at e;exact e
  rcases P.de (by omega) e' with⟨-,-,h⟩|⟨j,p,hp,he,hb⟩
  ·omega
  ·have:i=j:=by omega
   subst this;rw[ho] at hp;injection hp with hp;rw[hp];omega
 have abw:∀p∈m.ag,∀n∈H.cM p,fm m n=fm m o.to->n=o.to:=by
  intro p hp n hn;have a:=S.av hp hn;exact inj n a.1 a.2.1
 have aob:∀n∈m.aJ,fm m n=fm m o.to->n=o.to:=by
  intro n hn;have a:=(S.aJ n hn).1;exact inj n a.1 a.2.1
 have hl:(gS m).length=m.ag.length:=by simp[gS]
 have eN:(aJ m).count (fm m o.to)+oy (gS m) (fm m o.to) (gS m).length=H.cH m o.to:=by
  rw[hl,abv abw m.ag.length (bj _),jo];unfold aJ H.cH;rw[Sx _ aob];omega
 show(aJ m).count (fm m o.to)+oy (gS m) (fm m o.to) (gS m).length≠0/\¬((aJ m).count (fm m o.to)+oy (gS m) (fm m o.to) (gS m).length=1/\_/\o.af<=7);rw[eN];have Sz:=bV ho;refine⟨hw.1 o Sz,?_⟩;rintro ⟨h1,hc,h7⟩;obtain⟨j,s,jG,hv,k7⟩:=Sy _ hc;unfold gS at jG;rw[dY] at jG;obtain⟨c,LG,rfl⟩:=Option.map_eq_some_iff.mp jG;have JC:c.af=7:=k7;have ro:H.cM c=[c.a]:=by unfold H.cM;rw[JC,ak (by decide),ak (by decide)]
 have SB:fm m o.to∈(H.cM c).map (fm m):=hv;rw[ro] at SB;simp at SB;have hcm:=bV LG;have:=abw c hcm c.a (H.vx c) SB.symm;refine hw.2 c hcm o Sz JC ?_ this.symm h1;unfold H.sO;have:=hk o Sz;simp;omega
end T
namespace T
theorem aby:∀(i:Nat) (m:M.Md),(H.rH i m).ag.length<=m.ag.length
 | 0,_=>bj _
 | i+1,m=>jK (aby i (H.kA m i)) (H.XQ m i).2
theorem aoc(m:M.Md):(H.jD m).ag.length<=m.ag.length:=by
 have h1:(H.iP m).ag.length<=m.ag.length:=by rw[H.XN];exact(H.IM m m.ag.length (bj _)).2.2.2
 have h2:(H.drop (H.iP m)).ag.length<=(H.iP m).ag.length:=aby _ _;have h3:(H.oS (H.drop (H.iP m))).ag.length<=(H.drop (H.iP m)).ag.length:=by rw[H.XT];exact H.Ri _ _ (bj _)
 show(H.oS (H.drop (H.iP m))).ag.length<=_;omega
theorem aod(m:M.Md):H.fN m<=m.au.length:=by
 rw[H.Mz];unfold H.cy;exact jK (List.length_filter_le _ _) (by simp)
structure Ok(m:M.Md)(N:Nat)(bs:List H.Bf):Prop where
 len:bs.length=N
 oX:N<=64
 lv:NK N (gS m) (ins m) (aJ m)
 ar:NT (ux N (gS m) (ins m) (aJ m)) bs (H.gR bs)
 fu:NU (gS m) (aJ m)
theorem aoe{md:M.Md}(h:O.iN md):Ok (H.jD md) (H.fN (H.jD md)+(H.jD md).ag.length) (H.eZ (H.nE (H.jD md)).lv):=by
 obtain⟨C,S0⟩:=H.MU h;have S:=S0.jD;have hv:=H.anp S0;have hw:=H.anv S0;have P:=H.Ag S;have Ly:=(H.Fg S).L;have hi:=aod (H.jD md);have Cy:=S.nt;have wZ:=S.no;have lv:=anH S hv _ rfl;refine⟨by rw[Ly.len,P.ll],by omega,lv.2,?_,aoa S hw fun o ho=>(S.fi o ho).dQ.k0⟩;rw[lv.1];exact an9 S (by omega)
end T
def ko(x:T.Lf):List Value:=[.int .i64 x.f,.int .i64 x.t,.bool x.m]
theorem aof(xs:List T.Lf):(xs.flatMap ko).length=xs.length*3:=by
 rw[List.length_flatMap]
 induction xs with
 | nil=>rfl
 | cons x xs ih=>simp[ko] at ih ⊢;omega
theorem yS{w:World}{g tt:Nat}{xs:List T.Lf}(hB:aj w g tt (xs.flatMap ko).toArray){i:Nat}{x:T.Lf}(h:xs[i]?=some x) :
  w.cell? ⟨g,i*3,none⟩=some (.int .i64 x.f)/\w.cell? ⟨g,i*3+1,none⟩=some (.int .i64 x.t)/\w.cell? ⟨g,i*3+2,none⟩=some (.bool x.m):=by
 have cK:∀j,j<3->w.cell? ⟨g,i*3+j,none⟩=(ko x)[j]?:=by
  intro j hj;rw[hB.cell (i*3+j),nH];exact lL ko 3 (fun _=>rfl) xs i j x h hj
 exact⟨cK 0 (by omega),cK 1 (by omega),cK 2 (by omega)⟩
theorem SC{xs:List T.Lf}{i:Nat}{x:T.Lf}(h:xs[i]?=some x)(t:Int):((xs.flatMap ko).toArray).setIfInBounds (i*3+1) (.int .i64 t)=((xs.set i ⟨x.f,t,x.m⟩).flatMap ko).toArray:=by
 rw[List.setIfInBounds_toArray];rw[vE ko 3 (fun _=>rfl) xs i 1 x ⟨x.f,t,x.m⟩ _ h (by decide) rfl]
theorem abz{xs:List T.Lf}{i:Nat}{x:T.Lf}(h:xs[i]?=some x)(f t:Int)(m:Bool) :
  ((((xs.flatMap ko).toArray.setIfInBounds (i*3) (.int .i64 f)).setIfInBounds (i*3+1) (.int .i64 t)).setIfInBounds (i*3+2) (.bool m))=((xs.set i ⟨f,t,m⟩).flatMap ko).toArray:=by
 have hl:=M.bP h;have e0:((xs.flatMap ko).toArray.setIfInBounds (i*3) (.int .i64 f))=((xs.set i ⟨f,x.t,x.m⟩).flatMap ko).toArray:=by
  rw[List.setIfInBounds_toArray,<-vE ko 3 (fun _=>rfl) xs i 0 x ⟨f,x.t,x.m⟩ (.int .i64 f) h (by decide) rfl,Nat.add_zero]
 have h1:(xs.set i ⟨f,x.t,x.m⟩)[i]?=some ⟨f,x.t,x.m⟩:=by rw[List.getElem?_set_self hl]
 rw[e0,SC h1,List.set_set,List.setIfInBounds_toArray];have h2:(xs.set i ⟨f,t,x.m⟩)[i]?=some ⟨f,t,x.m⟩:=by rw[List.getElem?_set_self hl]
 rw[vE ko 3 (fun _=>rfl) (xs.set i ⟨f,t,x.m⟩) i 2 ⟨f,t,x.m⟩ ⟨f,t,m⟩ _ h2 (by decide) rfl,List.set_set]
structure Td where
 g0:Nat
 nb:Nat
 G:Nat
 gs:List (Nat×Nat)
 g2:Nat
 ni:Nat
 g3:Nat
 no:Nat
 mark:Int
def Td.val(t:Td):List Value:=[.slice (some ⟨t.g0,0,none⟩) t.nb t.nb,.slice (some ⟨t.G,0,none⟩) t.gs.length t.gs.length,.slice (some ⟨t.g2,0,none⟩) t.ni t.ni,.slice (some ⟨t.g3,0,none⟩) t.no t.no,.int .i64 t.mark]
def Td.iE(t:Td):List Nat:=t.g0::t.G::t.g2::t.g3::t.gs.map (·.1)
def NV(mark:Int)(p:Nat×Nat):List Value:=[.int .i64 (-7),.slice (some ⟨p.1,0,none⟩) p.2 p.2,.int .i64 (-mark-3)]
def NW(mark:Int):List Value:=[.int .i64 (-mark),.int .i64 (-7)]
structure qW(w:World)(t:Td):Prop where
 m0:0<=t.mark
 m1:t.mark<=1000000000000
 oX:t.nb<=1000/\t.gs.length<=1000/\t.ni<=1000/\t.no<=1000
 abA:∀p∈t.gs,p.2<=1000
 b:aj w t.g0 116 ((List.replicate t.nb ()).flatMap fun _=>NW t.mark).toArray
 s:aj w t.G 151 (t.gs.flatMap (NV t.mark)).toArray
 i:aj w t.g2 3 ((List.replicate t.ni (-(t.mark+1)-7)).map (Value.int .i64)).toArray
 o:aj w t.g3 3 ((List.replicate t.no (-(t.mark+2)-7)).map (Value.int .i64)).toArray
 f:∀(k:Nat) p,t.gs[k]?=some p->aj w p.1 3 ((List.replicate p.2 (-(t.mark+4+k)-7)).map (Value.int .i64)).toArray
theorem qW.kept{w w':World}{t:Td}{S:Nat->Prop}(h:qW w t)(hF:Fr S w w')(hS:∀g∈t.iE,¬S g):qW w' t:=by
 refine⟨h.m0,h.m1,h.oX,h.abA,hF.gF h.b (hS _ (by simp[Td.iE])),hF.gF h.s (hS _ (by simp[Td.iE])),hF.gF h.i (hS _ (by simp[Td.iE])),hF.gF h.o (hS _ (by simp[Td.iE])),fun k p hp=>hF.gF (h.f k p hp) (hS _ ?_)⟩;unfold Td.iE
 iterate 4 refine sL _ ?_
 exact List.mem_map_of_mem (f:=fun p:Nat×Nat=>p.1) (bV hp)
theorem qW.Z{w w':World}{t:Td}(h:qW w t)(hg:w.grownBy w' none):qW w' t:=h.kept (Fr.uw hg) (fun _ _ e=>by cases e)
def Ts(w:World)(base:Nat)(v:Value)(tl:List Td):Prop:=w.ownsRow base 132 5 v tl.length (tl.flatMap Td.val)/\∀t∈tl,qW w t
theorem SD{w:World}{g n c:Nat}{x:Int}(h:aj w g 3 ((List.replicate n x).map (Value.int .i64)).toArray):Sl w (.slice (some ⟨g,0,none⟩) n c) (List.replicate n x):=by
 refine⟨some ⟨g,0,none⟩,c,by rw[vF],fun i y hy=>⟨_,rfl,?_⟩⟩;rw[wQ,h.cell i,nH,dY,hy]
 rfl
theorem SE{n:Nat}{x:Int}:∀(i:Nat) y,(List.replicate n x)[i]?=some y->y=x:=by
 intro i y h;rw[tV] at h
 split at h
 ·injection h with h;exact h.symm
 ·exact aN h (by simp)
theorem qW.aog{w:World}{t:Td}(h:qW w t){k:Nat}(hk:k<t.nb):w.cell? ⟨t.g0,k*2,none⟩=some (.int .i64 (-t.mark))/\w.cell? ⟨t.g0,k*2+1,none⟩=some (.int .i64 (-7)):=by
 have cK:∀j,j<2->w.cell? ⟨t.g0,k*2+j,none⟩=(NW t.mark)[j]?:=by
  intro j hj;rw[h.b.cell (k*2+j),nH];exact lL (fun _:Unit=>NW t.mark) 2 (fun _=>rfl) (List.replicate t.nb ()) k j () (by rw[tV,ay hk]) hj
 exact⟨cK 0 (by omega),cK 1 (by omega)⟩
theorem qW.gS{w:World}{t:Td}(h:qW w t){k:Nat}{p:Nat×Nat}(hp:t.gs[k]?=some p):w.cell? ⟨t.G,k*3,none⟩=some (.int .i64 (-7))/\w.cell? ⟨t.G,k*3+1,none⟩=some (.slice (some ⟨p.1,0,none⟩) p.2 p.2)/\w.cell? ⟨t.G,k*3+2,none⟩=some (.int .i64 (-t.mark-3)):=by
 have cK:∀j,j<3->w.cell? ⟨t.G,k*3+j,none⟩=(NV t.mark p)[j]?:=by
  intro j hj;rw[h.s.cell (k*3+j),nH];exact lL (NV t.mark) 3 (fun _=>rfl) t.gs k j p hp hj
 exact⟨cK 0 (by omega),cK 1 (by omega),cK 2 (by omega)⟩
theorem Ts.row{w:World}{base:Nat}{a:Option Addr}{n c:Nat}{tl:List Td}(h:Ts w base (.slice a n c) tl){k:Nat}{t:Td}(hk:tl[k]?=some t):∃g,a=some ⟨g,0,none⟩/\n=tl.length/\base<=g /\
  w.cell? ⟨g,k*5,none⟩=some (.slice (some ⟨t.g0,0,none⟩) t.nb t.nb)/\w.cell? ⟨g,k*5+1,none⟩=some (.slice (some ⟨t.G,0,none⟩) t.gs.length t.gs.length)/\w.cell? ⟨g,k*5+2,none⟩=some (.slice (some ⟨t.g2,0,none⟩) t.ni t.ni) /\
  w.cell? ⟨g,k*5+3,none⟩=some (.slice (some ⟨t.g3,0,none⟩) t.no t.no)/\w.cell? ⟨g,k*5+4,none⟩=some (.int .i64 t.mark)/\qW w t:=by
 have aK:=M.bP hk;obtain⟨g,ha,hb,hn,hc⟩:=nZ h.1 (by omega);have cK:∀j,j<5->w.cell? ⟨g,k*5+j,none⟩=t.val[j]?:=by
  intro j hj;rw[hc _ (by omega)];exact lL Td.val 5 (fun _=>rfl) tl k j t hk hj
 exact⟨g,ha,hn,hb,cK 0 (by omega),cK 1 (by omega),cK 2 (by omega),cK 3 (by omega),cK 4 (by omega),h.2 t (bV hk)⟩
end Go.Proofs.YtcnhfffgbamonabGreat
