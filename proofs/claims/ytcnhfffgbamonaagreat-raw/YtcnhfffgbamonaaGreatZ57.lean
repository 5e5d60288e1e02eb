import Derived.Laws.CopyOwn
import Derived.Test.YtcnhfffgbamonaaGreatZ43
set_option maxRecDepth 100000
set_option maxHeartbeats 6400000
namespace Go.Proofs.YtcnhfffgbamonaaGreat
open Go.Proofs.Tryz
open RowKit
theorem SBw(ao:Option Addr)(n c:Nat)(l:List Int)(w:World)(hS:Sl w (.slice ao n c) l)(hl:l.length<=17592186043904) :
  Calls prog 17 #[.slice ao n c] w fun e w'=>e=.returned (.slice (some ⟨w.heap.size,0,none⟩) l.length l.length)/\aj w' w.heap.size 3 (l.map (Value.int .i64)).toArray/\w.grownBy w' none:=by
 obtain rfl:=hS.len;have HS:=ae hS;clear hS;obtain⟨i0,hi,cP,cQ,cZ⟩:=info_parts Tryz.oO;have ju:(prog.info? 3).map (·.size)=some 1:=by rw[hi];simp[cQ]
 have CH:=ae ju;clear ju;go_enter func17,ntmps17;go_wp2_with(at_make;refine qg _ rfl _ _ 33 rfl w.heap.size 3 i0 (.int .i64 0) 1 underlying33 hi cP cQ _ _ _ _ l.length rfl rfl rfl rfl ?c1 ?c2 ?c3 ?_)
 case c1=>rw[cZ];omega
 case c2=>unfold maxLen;omega
 case c3=>exact bj _
 intro w1 cB aH;have HB:Hid (w1.heap[w.heap.size]?=some (.cells (List.replicate l.length (Value.int .i64 0)).toArray 3 (0,0))):=xl cB;have jA:=ae (HS.out.Z aH);have Z7:=ae (xj aH);clear cB hi cP cQ cZ HS;obtain⟨w2,hr,ff,JS⟩:∃w2,(Builtin.copy_ #[33,33] 3 #[.slice (some ⟨w.heap.size,0,none⟩) l.length l.length,.slice ao l.length c]).run prog w1=.ok (goInt l.length) w2/\aj w2 w.heap.size 3 (l.map (Value.int .i64)).toArray/\w.grownBy w2 none:=by
  by_cases h0:l.length=0
  ·have e:l=[]:=List.eq_nil_of_length_eq_zero h0
   subst e;exact⟨w1,run_copy_none (P:=prog) w1 33 33 3 3 _ _ _ _ _ _ underlying33 CH.out rfl,HB.out,aH⟩
  ·obtain⟨x,hx⟩:∃x,l[0]?=some x:=⟨_,aS (by omega)⟩
   obtain⟨a,rfl,-⟩:=jA.out.get 0 x hx;have N7:=run_copy_row (P:=prog) w1 33 33 3 3 w.heap.size 0 l.length l.length a l.length c _ 3 (l.map (Value.int .i64)) underlying33 CH.out HB.out (by simp) (fun j v hv=>by
    rw[dV] at hv
    cases hj:l[j]? with
    |none=>rw[hj] at hv;simp at hv
    |some y=>
     rw[hj] at hv;injection hv with hv;subst hv;obtain⟨a',e,d⟩:=jA.out.get j y hj;injection e with e;subst e;exact d) (by simp) (by intro v hv;obtain⟨x,-,rfl⟩:=List.mem_map.mp hv;rfl)
   rw[jb] at N7;refine⟨_,N7,?_,BE (below_setRow Z7.out (bj _) _)⟩;unfold aj;rw[setRow_heap w1 w.heap.size _ _ 3 _ HB.out];simp
 have iD:=ae ff;have dU:=ae JS;clear ff JS aH HB jA Z7;go_wp2;go_ret;exact⟨rfl,iD.out,dU.out⟩
theorem Z9w(s:ByteArray)(w:World)(hs:s.size<=17592186043904) :
  Calls prog 41 #[.string s] w fun e w'=>e=.returned (.slice (some ⟨w.heap.size,0,none⟩) s.size s.size)/\aj w' w.heap.size 3 ((yY s).map (Value.int .i64)).toArray/\w.grownBy w' none:=by
 obtain⟨i0,hi,cP,cQ,cZ⟩:=info_parts Tryz.oO;go_enter func41,ntmps41;go_wp2_with(at_make;refine qg _ rfl _ _ 33 rfl w.heap.size 3 i0 (.int .i64 0) 1 underlying33 hi cP cQ _ _ _ _ s.size rfl rfl rfl rfl ?c1 ?c2 ?c3 ?_)
 case c1=>rw[cZ];omega
 case c2=>unfold maxLen;omega
 case c3=>exact bj _
 intro w1 cB aH;have HB:=ae (xl cB);have dN:=ae aH;have oG:Hid (∀i,i<s.size->(List.replicate s.size (Value.int .i64 0)).toArray[i]?=some (.int .i64 0)):=fun i hi=>by simp[hi]
 have iU:(List.replicate s.size (Value.int .i64 0)).toArray.size=s.size:=by simp
 generalize (List.replicate s.size (Value.int .i64 0)).toArray=cs at *;have Ev:=ae iU;clear cB hi cP cQ cZ aH iU;go_wp2;go_loopw[4] (fun i wr=>∃k:Nat,k<=s.size/\i=.int .i64 k/\Hid (aj wr w.heap.size 3 (sgTo s cs k))/\Hid (w.grownBy wr none)) (fun i _=>s.size-(intOf i).toNat)
 case atStart=>exact⟨0,bK _,rfl,HB.out,dN.out⟩
 case round=>
  clear HB dN;obtain⟨k,hk,rfl,eK,bH⟩:=hrel;by_cases aJ:k<s.size
  ·have d0:wr.cell? ⟨w.heap.size,k,none⟩=some (.int .i64 0):=by rw[eK.out.cell k,Z8 _ _ _ _ (by rw[Ev.out];exact aJ),ak (by omega)];exact oG.out k aJ
   have f0:=eK.out.free k;have dh:=eK.out.lt;have Hg:=ae (N8 s k aJ);have an4:(s[k]'aJ).toNat<256:=UInt8.toNat_lt _;obtain⟨x,Hx⟩:∃x:Nat,Hid ((s[k]'aJ).toNat=x):=⟨_,rfl⟩;have hx:(s[k]'aJ).toNat=x:=Hx.out;rw[hx] at an4;rw[Hx.out] at Hg;have HGD:Hid ((yY s).getD k 0=Eu x):=by unfold Hid;rw[oa,Hg.out];rfl
   by_cases abf:127<x
   ·have HV:=ae (show Eu x=(x:Int)-256 by unfold Eu;rw[ay abf])
    have B1:=eK.out.set k (.int .i64 x);have e1:(wr.setCell ⟨w.heap.size,k,none⟩ (.int .i64 x)).cell? ⟨w.heap.size,k,none⟩=some (.int .i64 x):=by
     rw[B1.cell k,JB,ay rfl,ay (by rw[Oa,Ev.out];exact aJ)]
    have iD:=ae (B1.set k (.int .i64 ((x:Int)-256)));have dU:=ae (dF (dF bH.out (bD wr w.heap.size k (.int .i64 x)) (bj _)) (bD _ w.heap.size k (.int .i64 ((x:Int)-256))) (bj _));have SD:Hid (aj ((wr.setCell ⟨w.heap.size,k,none⟩ (.int .i64 x)).setCell ⟨w.heap.size,k,none⟩ (.int .i64 ((x:Int)-256))) w.heap.size 3 (sgTo s cs (k+1))):=by
     have e:=iD.out;rw[Array.setIfInBounds_setIfInBounds] at e;unfold sgTo;rw[HGD.out,HV.out];exact e
    clear B1 eK bH iD;go_wp2;go_roundw
    case rel=>exact⟨k+1,by omega,by go_num,SD.out,dU.out⟩
    case measure=>simp[intOf];omega
   ·have HV:=ae (show Eu x=(x:Int) by unfold Eu;rw[ak abf])
    have B1:=eK.out.set k (.int .i64 x);have e1:(wr.setCell ⟨w.heap.size,k,none⟩ (.int .i64 x)).cell? ⟨w.heap.size,k,none⟩=some (.int .i64 x):=by
     rw[B1.cell k,JB,ay rfl,ay (by rw[Oa,Ev.out];exact aJ)]
    have dU:=ae (dF bH.out (bD wr w.heap.size k (.int .i64 x)) (bj _));have SD:Hid (aj (wr.setCell ⟨w.heap.size,k,none⟩ (.int .i64 x)) w.heap.size 3 (sgTo s cs (k+1))):=by
     unfold sgTo;rw[HGD.out,HV.out];exact B1
    clear B1 eK bH;go_wp2;go_roundw
    case rel=>exact⟨k+1,by omega,by go_num,SD.out,dU.out⟩
    case measure=>simp[intOf];omega
  ·obtain rfl:k=s.size:=by omega
   have HF:=ae eK.out;rw[an3 s cs Ev.out] at HF;clear eK;go_wp2;go_ret;exact⟨rfl,HF.out,bH.out⟩
theorem avOw(b base q gb B C:Nat)(md:M.Md)(vp v1 v2 va vn ve vr vt vm vo:Value)(n1:Nat)(xs ys:List Value)(s:ByteArray)(w:World)
  (hK:Kp w w b base vp v1 v2 va vn ve vr vt vm vo v1 v2 n1 xs ys) (zg:base<=w.heap.size) (iq:n1<=900000000) (hs:s.size<=17592186043904)
  (hG:yn w B C gb (R.dp md)) (hC:C<=w.heap.size) (hS:∀k,(k=b\/v1.ownBlock=some k\/v2.ownBlock=some k)->¬(B<=k/\k<C)) (h1:O.iP md) (tL:0<md.au.length):
 Calls prog 20 #[.pointer (some ⟨b,0,none⟩),.agg #[.pointer (some ⟨q,0,none⟩),.pointer (some ⟨gb,0,none⟩)],.string s] w fun e w'=>e=.returned (.tuple #[])/\∃vk u1 u2 m rs gs hs,m<=24/\vg w w' b base vp v1 v2 va vn ve vk vt vm vo u1 u2 n1 m xs ys rs gs hs:=by
 obtain⟨i0,mB,cP,cQ,cZ⟩:=info_parts Tryz.Ey;obtain⟨j0,UX,vZ,qq,wg⟩:=info_parts Tryz.oO;have CN:=h1.nt;have fq:(R.jT md.au).length<=24:=by rw[UW];unfold H.cy;exact jN (List.length_filter_le _ _) (by simp;omega)
 have HD:Hid (∀(n:Nat) t,md.au[n]?=some t->∃X N:Nat,t.h*t.w=X/\X<=65025/\(X:Int)*t.c=N/\N<=512):=fun n t ht=>by
  have hd:=h1.kQ t (bU ht);have hh:=hd.h0;have hw:=hd.w0;have hc:=hd.c0;have m3:=xn (h:=t.h) (w:=t.w) (c:=t.c) (by omega) hd.h1 (by omega) hd.w1 (by omega) hd.c1;obtain⟨X,hX⟩:=fT m3.1;obtain⟨N,hN⟩:=fT m3.2.2.1;have azt:t.h*t.w*t.c<=512:=hd.mn;exact⟨X,N,hX,by omega,by rw[<-hX];exact hN,by omega⟩
 have K0:=hK.afR (.slice none 0 0);have f6:=hK.L.free 6;have c6:w.cell? ⟨b,6,none⟩=some vr:=hK.L.cell 6;have dh:=hK.L.lt;have g0:=aQ (w.setCell ⟨b,6,none⟩ (.slice none 0 0)) (.cells #[.pointer (some ⟨q,0,none⟩),.pointer (some ⟨gb,0,none⟩)] 39) none;have km:=aj.bA (w.setCell ⟨b,6,none⟩ (.slice none 0 0)) 39 #[.pointer (some ⟨q,0,none⟩),.pointer (some ⟨gb,0,none⟩)];rw[yC] at km;have K1:=K0.grow g0;have p1:=km.cell 1;simp only[show(#[Value.pointer (some ⟨q,0,none⟩),Value.pointer (some ⟨gb,0,none⟩)]:Array Value)[1]?=some (.pointer (some ⟨gb,0,none⟩)) from rfl] at p1;have dN:=ae (hG.hZ (K1.F.hZ hC hS));have nF:=ae km;have HK1:=ae K1;have SO:((w.setCell ⟨b,6,none⟩ (.slice none 0 0)).alloc (.cells #[.pointer (some ⟨q,0,none⟩),.pointer (some ⟨gb,0,none⟩)] 39)).heap.size=w.heap.size+1:=by simp
 have PF:Hid (∀g,(v1.ownBlock=some g\/v2.ownBlock=some g)->g<w.heap.size):=fun g hg=>hg.elim (fun e=>(iL hK.k1 g e).2) (fun e=>(iL hK.k2 g e).2);have HS:=ae hS;clear hK hG hS K0 K1 g0 km h1;go_enter func20,ntmps20;go_wp2_with fail;generalize (w.setCell ⟨b,6,none⟩ (.slice none 0 0)).alloc (.cells #[.pointer (some ⟨q,0,none⟩),.pointer (some ⟨gb,0,none⟩)] 39)=w1 at *;refine(Ul gb (R.dp md) w1 dN.out.KS (by show md.au.length<=255;omega)).mono ?_;rintro e w2⟨⟨ax,cx,rfl,hX⟩,g2⟩;have HX:=ae (show aZ w2 w1.heap.size (.slice ax (R.jT md.au).length cx) (R.jT md.au) from hX);have UY:(R.dp md).ts=md.au:=rfl;rw[UY];have G2:=ae g2;clear hX g2 p1 c6 f6;go_wp2_with fail;refine(Z9w s w2 hs).mono ?_;rintro e w3⟨rfl,VT,g3⟩;have PZ:=aC G2.out g3;have qi:=G2.out.size;have JP:=g3.size;have HX3:=ae (HX.out.Z g3);have HBy:=ae VT;have azu:=VT.lt;have HP:=ae (nF.out.kept PZ (by simp));have yk:=ae (HK1.out.grow PZ);have fR:=ae (dN.out.hZ (zO PZ (by omega)));have HF0:=ae (vg.nil yk.out.Te);have BB:=PF.out;have Ou:Hid (∀g,w.heap.size<=g->¬(g=b\/v1.ownBlock=some g\/v2.ownBlock=some g)):=fun g hg hx=>by
  rcases hx with hx|hx|hx
  ·omega
  ·have:=BB g (.inl hx);omega
  ·have:=BB g (.inr hx);omega
 have yb:=ae yk.out.F;clear HX nF HK1 dN VT g3 PZ G2 BB PF;go_wp2;go_loopw[7,9] (fun kv i wr=>∃(k kk:Nat) (vk u1 u2:Value) (rs:List (List Int)) (gs jJ:List Nat),Hid (k<=(R.jT md.au).length)/\Hid (kk<=512*k)/\kv=.int .i64 kk/\i=.int .i64 k/\Hid (vg w3 wr b base vp v1 v2 va vn ve vk vt vm vo u1 u2 n1 k xs ys rs gs jJ)) (fun _ i _=>(R.jT md.au).length-(intOf i).toNat)
 case atStart=>exact⟨0,0,.slice none 0 0,v1,v2,[],[],[],bK _,bK _,rfl,rfl,HF0.out⟩
 case round=>
  clear HF0 yk;obtain⟨k,kk,vk,u1,u2,rs,gs,jJ,Hk,Hkk,rfl,rfl,HF⟩:=hrel;have hk:=Hk.out;have hkk:=Hkk.out;by_cases aJ:k<(R.jT md.au).length
  ·have hF:=HF.out.K.F
   have Yi:=hF.size;have nS:=Ou.out;obtain⟨x,hx⟩:∃x,(R.jT md.au)[k]?=some x:=⟨_,aS aJ⟩;obtain⟨n,t,rfl,fP,ht,k0,xL⟩:=R.KR _ _ (bj _) k x hx;have hX:aZ wr w1.heap.size (.slice ax (R.jT md.au).length cx) (R.jT md.au):=hF.jI HX3.out (fun g hg=>nS g (by have:=(iL HX3.out g hg).1;omega));obtain⟨aX,rfl,dX⟩:=hX.sl.get k n hx;obtain⟨ga,c1,By⟩:=(fR.out.hZ (hF.hZ (by omega) HS.out)).KS.Uq tL;have hT:=By.t n t ht;have q0:wr.cell? ⟨gb,0,none⟩=some (.slice (some ⟨ga,0,none⟩) md.au.length c1):=By.q;have p1:wr.cell? ⟨w.heap.size,1,none⟩=some (.pointer (some ⟨gb,0,none⟩)):=hF.cell HP.out (nS _ (bj _)) rfl;have aha:=ae (hF.gy HBy.out (nS _ (by omega)));obtain⟨X,N,hXe,hX2,hN,hN2⟩:=HD.out n t ht;have t1:=hT.h;have t2:=hT.v;have t3:=hT.c;have wX:IntKind.i64.wrap (t.h*t.w)=(X:Int):=by rw[hXe,cU];omega
   have wN:IntKind.i64.wrap ((X:Int)*t.c)=(N:Int):=by rw[hN,cU];omega
   have azx:=M.bP ht;clear hF nS hX By hT hx xL fP ht k0 hXe hN;go_wp2_with fail;go_quiet(fail);have gq:=bE wr nq none;have Lu:=ae (HF.out.grow gq);have ahc:=ae (aha.out.kept gq (by simp));have s1:=aG gq t1;have s2:=aG gq t2;have s3:=aG gq t3;have Pu:=gq.size;clear HF aha t1 t2 t3 gq dX q0 p1;generalize wr.drewN nq=wa at *;go_wp2_with fail;go_still_tail 14,(by kernel_rfl);show wpList _ _ _ _ _ (World.drew _);have gq:=gE wa none;have VU:=ae (Lu.out.grow gq);have avR:=ae (ahc.out.kept gq (by simp));have hsb:=gq.size;clear Lu ahc s1 s2 s3 gq wX wN;generalize wa.drew=wb at *;go_wp2_with(at_make;refine qg _ rfl _ _ 33 rfl wb.heap.size 3 j0 (.int .i64 0) 1 underlying33 UX vZ qq _ _ _ _ N rfl rfl rfl rfl ?c1 ?c2 ?c3 ?_)
   case c1=>rw[wg];omega
   case c2=>unfold maxLen;omega
   case c3=>exact bj _
   intro w5 cB cK;have oE:=ae (xl cB);have iC:=ae cK;clear cB cK;go_wp2;go_loopw[7,12] (fun kv j w'=>∃(jj tY:Nat) (l:List Int),Hid (jj<=N)/\Hid (tY<=kk+jj)/\kv=.int .i64 tY/\j=.int .i64 jj/\Hid (l.length=N)/\Hid (aj w' wb.heap.size 3 (l.map (Value.int .i64)).toArray)/\Hid (wb.grownBy w' none)) (fun _ j _=>N-(intOf j).toNat)
   case atStart=>exact⟨0,kk,List.replicate N 0,bK _,bj _,rfl,rfl,(by unfold Hid;simp),(by unfold Hid;simpa using oE.out),iC.out⟩
   case round=>
    clear oE iC;obtain⟨jj,tY,l,Hjj,avT,rfl,rfl,zD,mV,HH⟩:=hrel;have hjj:=Hjj.out;have azz:=avT.out;by_cases Aa:jj<N/\0<s.size
    ·obtain⟨hj,Vs⟩:=Aa
     have hm:tY%s.size<s.size:=abc _ Vs;have tm:Int.tmod (tY:Int) (s.size:Int)=((tY%s.size:Nat):Int):=by rw[Int.tmod_eq_emod_of_nonneg (by omega)];exact(Int.natCast_emod tY s.size).symm
     obtain⟨x,hx⟩:∃x,(yY s)[tY%s.size]?=some x:=⟨_,N8 s _ hm⟩;have dB:wr.cell? ⟨w2.heap.size,tY%s.size,none⟩=some (.int .i64 x):=by rw[(avR.out.kept HH.out (by simp)).cell _,nP,dV,hx];rfl
     obtain⟨m,Hm⟩:∃m,Hid (tY%s.size=m):=⟨_,rfl⟩;rw[Hm.out] at hm tm dB;clear hx;obtain⟨y,hy⟩:∃y,l[jj]?=some y:=⟨_,aS (by rw[zD.out];exact hj)⟩;have d0:wr.cell? ⟨wb.heap.size,jj,none⟩=some (.int .i64 y):=by rw[mV.out.cell jj,nP,dV,hy];rfl
     have f0:=mV.out.free jj;have iD:Hid (aj (wr.setCell ⟨wb.heap.size,jj,none⟩ (.int .i64 x)) wb.heap.size 3 ((l.set jj x).map (Value.int .i64)).toArray):=by
      have e:=mV.out.set jj (.int .i64 x);rw[Lm,<-List.map_set] at e;exact e
     have dU:=ae (dF HH.out (bD wr wb.heap.size jj (.int .i64 x)) (bj _));have dh:=mV.out.lt;have ey:¬((s.size:Int)=0):=by omega
     clear hy mV HH;go_wp2;go_roundw
     case rel=>exact⟨jj+1,tY+1,l.set jj x,(show jj+1<=N by omega),(show tY+1<=kk+(jj+1) by omega),by go_num,by go_num,(by unfold Hid;rw[kK];exact zD.out),iD.out,dU.out⟩
     case measure=>simp[intOf];omega
    ·have zL:(jj=N/\True)\/(jj<N/\¬(0<(s.size:Int))):=by
      by_cases e:jj=N
      ·exact .inl ⟨e,trivial⟩
      ·exact .inr ⟨by omega,fun h=>Aa ⟨by omega,by omega⟩⟩
     have hNe:=zD.out;subst hNe;have H9:=ae (VU.out.grow HH.out);have dh:=mV.out.lt;have gQ:=HH.out.size;have ng:Sl wr (.slice (some ⟨wb.heap.size,0,none⟩) l.length l.length) l:=(aZ.sO (base:=0) (bK _) rfl (by unfold maxLen;omega) mV.out).sl;have HC:=ae (H9.out.K.Bz (by omega) (by omega) ng (by omega));have avV:Hid (∀g∈gs++jJ,g<wb.heap.size):=fun g hg=>(VU.out.ab g hg).2;clear ng VU;clear Aa;rcases zL with⟨e1,e2⟩|⟨e1,e2⟩
     all_goals
      go_wp2_with fail;refine HC.out.mono ?_;rintro e wc⟨rfl,g1,Vd,g2,Ve,wZ,yu,p9,o1,o2⟩;have HRc:=ae (p9.jI H9.out.R (fun g hg hx=>by
       have:=H9.out.rb g hg;rcases hx with hx|hx|hx
       ·exact this.1 hx
       ·exact this.2.1 hx
       ·exact this.2.2 hx))
      have c6:wc.cell? ⟨b,6,none⟩=some vk:=wZ.L.cell 6;have IJ:=p9.size;have Fe:=ae (And.intro wZ (And.intro yu (And.intro p9 (And.intro o1 o2))));clear wZ yu p9 o1 o2 HC;go_wp2_with(at_builtin;refine wpList_append_lies _ rfl _ _ 25 rfl w3.heap.size 33 i0 (.slice none 0 0) 1 24 underlying25 mB cP cQ cZ rfl (by decide) _ _ _ rfl (lB HRc.out _) ⟨wc.heap.size,0,none⟩ 1 1 [.slice (some ⟨wb.heap.size,0,none⟩) l.length l.length] rfl rfl ?c1 ?c2 ?c3 ?c4 ?c5 ?c6 (wc.heap.size+1) ?c7 ?_)
      case c1=>exact kb wc 33 #[.slice (some ⟨wb.heap.size,0,none⟩) l.length l.length]
      case c2=>intro u hu;simp at hu;subst hu;rfl
      case c3=>decide
      case c4=>unfold maxLen;omega
      case c5=>omega
      case c6=>simp;omega
      case c7=>simp
      intro gr cr wd cB cR jr avW;have bq:wc.grownBy wd vk.ownBlock:=aC (aQ _ _ _) cR;have HE:=ae (vg.py H9.out mV.out Fe.out.1 Fe.out.2.1 Fe.out.2.2.1 Fe.out.2.2.2.1 Fe.out.2.2.2.2 cB bq jr (by omega) avV.out (by omega));have P1:=Fe.out.1.L.kept bq (fun e=>(H9.out.rb b e.symm).1 rfl);have d6:wd.cell? ⟨b,6,none⟩=some vk:=P1.cell 6;have f6:=P1.free 6;have mZ:=P1.lt;clear cB cR jr avW bq P1 Fe HRc c6 mV HH H9;go_wp2;go_roundw
      case rel=>exact⟨k+1,tY,_,_,_,rs++[l],gs++[wb.heap.size],jJ++[wr.heap.size],(show k+1<=_ by omega),(show tY<=512*(k+1) by omega),rfl,by go_num,HE⟩
      case measure=>simp[intOf];omega
  ·obtain rfl:k=(R.jT md.au).length:=by omega
   have HE:Hid (vg w wr b base vp v1 v2 va vn ve vk vt vm vo u1 u2 n1 (R.jT md.au).length xs ys rs gs jJ):=by
    have h:=HF.out;refine⟨Kp.iK yb.out h.K,h.l0,h.l1,h.l2,h.nd,fun g hg=>⟨?_,(h.ab g hg).2⟩,h.f1,h.f2,nC h.R (by omega),h.sh,h.rb⟩;have:=(h.ab g hg).1;omega
   clear HF;go_wp2;go_end0;exact⟨rfl,vk,u1,u2,_,rs,gs,jJ,fq,HE.out⟩
theorem ahew{wz w:World}{b k:Nat}{c:Ct}(h:St wz w b k c)(hk:k<=2900000){p:Pn}(hp:p∈c.ps)(s:ByteArray)(hs:s.size<=17592186043904):
 Calls prog 20 #[.pointer (some ⟨b,0,none⟩),.agg #[.pointer (some ⟨p.q,0,none⟩),.pointer (some ⟨p.gb,0,none⟩)],.string s] w fun e w'=>e=.returned (.tuple #[]) /\
   Fr (fun g=>g=b\/c.v1.ownBlock=some g\/c.v2.ownBlock=some g\/c.vr.ownBlock=some g\/c.vo.ownBlock=some g) w w'/\∃v1 v2 vr nk rg,St wz w' b (k+1) {c with v1:=v1,v2:=v2,vr:=vr,ls:=c.ls++nk,rg:=rg}:=by
 obtain⟨hP,hG,h1,tL,hC⟩:=h.pl p hp;have fP:=h.nl;refine(avOw b wz.heap.size p.q p.gb p.B p.C p.md c.vp c.v1 c.v2 c.va c.vn c.ve c.vr c.vt (.int .i64 c.mark) c.vo _ _ _ s w h.VS h.gz.size (by omega) hs hG hC (fun g hg=>h.yw p hp g (by
  rcases hg with hg|hg|hg
  ·exact .inl hg
  ·exact .inr (.inr (.inl hg))
  ·exact .inr (.inr (.inr (.inl hg))))) h1 tL).mono fun e w' ⟨he,vk,u1,u2,m,rs,gs,jJ,hm,R⟩=>?_
 obtain⟨q1,q2,q3,q4,q5,q6⟩:=ag6 (gs:=gs) (hs:=jJ) (rs:=rs) (by rw[R.l1,R.l0]) (by rw[R.l2,R.l0]);have hF:Fr (fun g=>g=b\/c.v1.ownBlock=some g\/c.v2.ownBlock=some g\/c.vr.ownBlock=some g\/c.vo.ownBlock=some g) w w':=R.K.F.mono (fun g _ hg=>by
  rcases hg with hg|hg|hg
  ·exact .inl hg
  ·exact .inr (.inl hg)
  ·exact .inr (.inr (.inl hg)))
 have wH:(List.zipWith cT gs rs).length=m:=by rw[aa8,R.l1,R.l0,Nat.min_self]
 refine⟨he,hF,u1,u2,vk,kls gs jJ rs,List.zipWith cT gs rs,h.PY (vo:=c.vo) (os:=c.os) hF R.K.L ?_ ?_ ?_ ?_ ?_ ?_ ?_ ?_ R.K.o1 R.K.o2 ?_ (fun g hg=>.inl hg) R.K.tD ?_ ?_ (fun p hp=>.inl hp) h.ia h.ie h.ix ?_ ?_ ?_⟩
 ·rw[q1,q2,R.l0];exact R.K.k1
 ·rw[q1,q3,R.l0];exact R.K.k2
 ·rw[wH];exact nC R.R h.gz.size
 ·refine⟨R.K.F.jI h.E.1 (fun g hg hx=>?_),fun p' iJ=>⟨(h.E.2 p' iJ).1,R.K.F.gy (h.E.2 p' iJ).2 (fun hx=>h.tX p' iJ ?_)⟩⟩
  ·rcases hx with hx|hx|hx
   ·exact h.bo (by rw[<-hx];exact hg)
   ·exact qG h.E.1 h.k1 (by decide) g hg hx
   ·exact qG h.E.1 h.k2 (by decide) g hg hx
  ·rcases hx with hx|hx|hx
   ·exact .inl hx
   ·exact .inr (.inr (.inl hx))
   ·exact .inr (.inr (.inr (.inl hx)))
 ·intro x hx
  obtain⟨j,b1,b2,b3⟩:=q6 x hx;exact⟨R.f1 j _ _ b1 b3,R.f2 j _ _ b2 b3,by have:=R.sh _ (bU b3);omega⟩
 ·rw[q4,q5];exact R.nd
 ·rw[q4,q5];exact fun g hg=>(R.ab g hg).1
 ·intro u hu
  rw[<-q2] at hu;obtain⟨x,hx,rfl⟩:=List.mem_map.1 hu;exact .inr ⟨x,List.mem_append_right _ hx,0,x.l.length,x.l.length,rfl,by omega⟩
 ·intro g hg
  exact .inr (iL R.R g hg).1
 ·intro g hg hx
  exact(R.rb g hx).2.1 hg
 ·intro g hg hx
  exact(R.rb g hx).2.2 hg
 ·rw[q1,R.l0];omega
 ·rw[wH];omega
 ·have:=h.no;omega
theorem avYw(s:ByteArray)(a:Option Addr)(n cp:Nat)(ins:List (List Int))(w:World)(hs:s.size<=9223372036854775807)(hI:rD w w (.slice a n cp) ins)(hl:∀l∈ins,l.length<=17592186043904)(hn:ins.length<=5864062014634):
 Calls prog 6 #[.string s,.slice a n cp] w fun e w'=>e=.returned (.bool true)/\w.grownBy w' none:=by
 obtain rfl:=hI.len;obtain⟨i0,mB,cP,cQ,cZ⟩:=info_parts Tryz.Ey;have HI:=ae hI;have Hl:=ae hl;have Ln:=ae (St.bA w);clear hI hl;go_enter func6,ntmps6;go_wp2_with fail;refine(ag4 Ln.out (by omega) s (by omega)).mono ?_;rintro e w1⟨rfl,h1⟩;clear Ln;rcases h1 with⟨ey,qa⟩|⟨vp,vt,mark,p,tl,qa⟩
 ·have c0:w1.cell? ⟨w.heap.size,0,none⟩=some (.slice none 0 0):=qa.L.cell 0
  have G:=ae qa.gz;clear qa ey;go_wp2;go_ret;exact⟨rfl,G.out⟩
 ·obtain⟨gp,zY,yx,hR⟩:=qa.P3 (i:=0) (p:=p) rfl
  have avZ:vp=.slice (some ⟨gp,0,none⟩) 1 zY:=yx;subst avZ;have c0:w1.cell? ⟨w.heap.size,0,none⟩=some (.slice (some ⟨gp,0,none⟩) 1 zY):=qa.L.cell 0;have eJ:=ae qa;have HR:=ae hR;clear qa hR yx;go_wp2;clear c0;go_loopw[7,8] (fun v i wr=>∃(k:Nat) (gs:List Nat) (av:Option Addr) (cv:Nat),Hid (k<=ins.length)/\v=.slice av k cv/\i=.int .i64 k/\Hid (gs.length=k)/\Hid (wr.ownsRow w1.heap.size 33 1 (.slice av k cv) k (List.zipWith cT gs (ins.take k)))/\Hid (∀(j:Nat) g l,gs[j]?=some g->ins[j]?=some l->aj wr g 3 (l.map (Value.int .i64)).toArray)/\Hid (w1.grownBy wr none)) (fun _ i _=>ins.length-(intOf i).toNat)
  case atStart=>exact⟨0,[],none,0,bK _,rfl,rfl,rfl,ki _ _ _ _,(fun j g l h=>aN h (by simp)),fZ _ _⟩
  case round=>
   obtain⟨k,gs,av,cv,Hk,rfl,rfl,jH,qH,HB,HG⟩:=hrel;have hk:=Hk.out;by_cases aJ:k<ins.length
   ·obtain⟨l,hx⟩:∃l,ins[k]?=some l:=⟨_,aS aJ⟩
    have gw:w.grownBy wr none:=aC eJ.out.gz HG.out;obtain⟨aI,bI,cI,rfl,dI,ng⟩:=HI.out.get k l hx;have P4:=aG gw dI;have oF:=Hl.out l (bU hx);have HC:=ae (SBw bI l.length cI l wr ((ng.sl (fZ _ _)).Z gw) (by omega));have Hx:=ae hx;clear ng hx dI gw;go_wp2_with fail;refine HC.out.mono ?_;rintro e w2⟨rfl,ff,aM⟩;clear HC P4;have P6:=ae (iF qH.out aM (by simp));have iD:=ae ff;have wY:=ae aM;have qi:=aM.size;have xS:=HG.out.size;clear ff aM;go_wp2_with(at_builtin;refine wpList_append_lies _ rfl _ _ 25 rfl w1.heap.size 33 i0 (.slice none 0 0) 1 24 underlying25 mB cP cQ cZ rfl (by decide) _ _ _ rfl (lB P6.out _) ⟨w2.heap.size,0,none⟩ 1 1 [.slice (some ⟨wr.heap.size,0,none⟩) l.length l.length] rfl rfl ?c1 ?c2 ?c3 ?c4 ?c5 ?c6 (w2.heap.size+1) ?c7 ?_)
    case c1=>exact kb w2 33 #[.slice (some ⟨wr.heap.size,0,none⟩) l.length l.length]
    case c2=>intro u hu;simp at hu;subst hu;rfl
    case c3=>decide
    case c4=>unfold maxLen;omega
    case c5=>omega
    case c6=>simp;omega
    case c7=>simp
    intro g3 av0 w3 cB cR jr qn;have bq:w2.grownBy w3 (Value.slice av k cv).ownBlock:=aC (aQ _ _ _) cR;have Bx:∀g,(Value.slice av k cv).ownBlock=some g->w1.heap.size<=g:=fun g hg=>(iL P6.out g hg).1;have VW:∀(g:Nat) cs,aj w2 g 3 cs->aj w3 g 3 cs:=fun g cs h=>h.kept bq (fun e=>kW P6.out h (by decide) e.symm);have fR:=ae (l8 (aC HG.out wY.out) bq Bx);have av1:Hid ((gs++[wr.heap.size]).length=k+1):=by unfold Hid;simp[jH.out]
    have av2:Hid (w3.ownsRow w1.heap.size 33 1 (.slice (some ⟨g3,0,none⟩) (k+1) av0) (k+1) (List.zipWith cT (gs++[wr.heap.size]) (ins.take (k+1)))):=by
     unfold Hid;rw[H.kd Hx.out,PG (by rw[jH.out,xE];omega)];exact cB
    have fU:Hid (∀(j:Nat) g l,(gs++[wr.heap.size])[j]?=some g->ins[j]?=some l->aj w3 g 3 (l.map (Value.int .i64)).toArray):=fun j g l' hj fI=>by
     rcases cE j gs.length with h|h
     ·rw[qT h] at hj
      exact VW _ _ ((HB.out j g l' hj fI).kept wY.out (by simp))
     ·have ej:j=k:=by have:=M.bP hj;simp[jH.out] at this;have:=jH.out;omega
      subst ej;rw[og h,jH.out,Nat.sub_self] at hj;simp at hj;subst hj;rw[Hx.out] at fI;injection fI with fI;subst fI;exact VW _ _ iD.out
    clear cB cR jr qn bq Bx VW qH P6 HB iD HG wY;go_wp2;go_roundw
    case rel=>exact⟨k+1,gs++[wr.heap.size],_,_,(show k+1<=_ by omega),rfl,by go_num,av1,av2,fU,fR⟩
    case measure=>simp[intOf];omega
   ·obtain rfl:k=ins.length:=by omega
    have LO:=ae (eJ.out.grow HG.out);have hRr:=amW HR.out HG.out;have c0:wr.cell? ⟨w.heap.size,0,none⟩=some (.slice (some ⟨gp,0,none⟩) 1 zY):=LO.out.L.cell 0;have VX:=qH.out;rw[jm] at VX;have VY:=ae VX;have HRr:=ae hRr;have xS:=HG.out.size;have dh:=eJ.out.L.lt;clear eJ HR qH VX;have HC:=ae (VV LO.out (by omega) (p:=p) (List.mem_singleton.2 rfl) a ins.length cp ins (HI.out.Z LO.out.gz) (fun l hl=>by have:=Hl.out l hl;omega) (by omega));go_wp2_with(refine wpList_load_mid rfl 39 _ rfl gp 0 rfl [.pointer (some ⟨p.q,0,none⟩),.pointer (some ⟨p.gb,0,none⟩)] _ HRr.out underlying39 rfl Tryz.Ia ?_);refine HC.out.mono ?_;rintro e w4⟨rfl,P7,v1,v2,vo,nk,os,ahi⟩;have nS:∀g,g≠w.heap.size->¬(g=w.heap.size\/(Value.slice none 0 0).ownBlock=some g\/(Value.slice none 0 0).ownBlock=some g\/(Value.slice none 0 0).ownBlock=some g\/(Value.slice none 0 0).ownBlock=some g):=fun g hg hx=>by
     rcases hx with hx|hx|hx|hx|hx
     ·exact hg hx
     all_goals cases hx
    have ahj:=ae (P7.jI VY.out (fun g hg=>nS g (by have:=(iL VY.out g hg).1;omega)));have iS:=ae (fun(j:Nat) g l hj hl=>P7.gy (HB.out j g l hj hl) (nS g (fun e=>by have:=HB.out j g l hj hl;rw[e] at this;exact aN (tT LO.out.L this) (by decide))));have jS:=ae ahi;have qS:=P7.size;clear P7 ahi nS HC VY HB LO HRr hRr c0 HG;go_wp2;go_loopw[12] (fun i wr=>∃k:Nat,Hid (k<=ins.length)/\i=.int .i64 k/\Hid (w4.grownBy wr none)) (fun i _=>ins.length-(intOf i).toNat)
    case atStart=>exact⟨0,bK _,rfl,fZ _ _⟩
    case round=>
     obtain⟨k,Hk,rfl,HG⟩:=hrel;have hk:=Hk.out;by_cases aJ:k<ins.length
     ·obtain⟨l,hx⟩:∃l,ins[k]?=some l:=⟨_,aS aJ⟩
      obtain⟨g,aF⟩:∃g,gs[k]?=some g:=⟨_,aS (by rw[jH.out];exact aJ)⟩;have gw:w.grownBy wr none:=aC jS.out.gz HG.out;obtain⟨aI,bI,cI,rfl,dI,ng⟩:=HI.out.get k l hx;have P4:=aG gw dI;have oF:=Hl.out l (bU hx);obtain⟨gB,ea,-,-,iU⟩:=nE ahj.out (by omega);subst ea;have dB:wr.cell? ⟨gB,k,none⟩=some (.slice (some ⟨g,0,none⟩) l.length l.length):=aG HG.out (by rw[iU k (by omega),aa7,aF,hx];rfl);have xh:Sl wr (.slice (some ⟨g,0,none⟩) l.length l.length) l:=(aZ.sO (base:=0) (bK _) rfl (by unfold maxLen;omega) ((iS.out k g l aF hx).kept HG.out (by simp))).sl;have Fx:=(ng.sl (fZ _ _)).Z gw;have HC:=ae (fun nd=>FU bI (some ⟨g,0,none⟩) l.length cI l.length l.length l l (wr.drewN nd) (Fx.Z (bE wr nd none)) (xh.Z (bE wr nd none)) (by omega) (by omega));rw[show decide (l=l)=true from by simp] at HC;clear ng hx aF dI gw iU Fx xh;go_wp2_with fail;go_quiet(exact Calls.quiet_of (HC.out _));have dU:=ae (aC HG.out (bE wr nq none));clear HC HG P4 dB;generalize wr.drewN nq=wq at *;go_wp2;go_roundw
      case rel=>exact⟨k+1,(show k+1<=_ by omega),by go_num,dU⟩
      case measure=>simp[intOf];omega
     ·obtain rfl:k=ins.length:=by omega
      have sw:=ae (jS.out.grow HG.out);clear jS HG ahj iS;have VZ:(ins.length=0)\/(∃l aI bI cI,a=some aI/\ins[0]?=some l/\0<ins.length/\w.cell? aI=some (.slice bI l.length cI)/\Sl w (.slice bI l.length cI) l):=by
       rcases Nat.eq_zero_or_pos ins.length with e|e
       ·exact .inl e
       ·obtain⟨l,hx⟩:∃l,ins[0]?=some l:=⟨_,aS e⟩
        obtain⟨aI,bI,cI,ea,dI,ng⟩:=HI.out.get 0 l hx;exact .inr ⟨l,aI,bI,cI,ea,hx,e,by simpa[Addr.add] using dI,ng.sl (fZ _ _)⟩
      go_wp2;go_loopw[14,15] (fun t i wr=>∃(k:Nat) (tb:ByteArray),Hid (tb.size=k)/\Hid (k<=17592186043904)/\t=.string tb/\i=.int .i64 k/\Hid (St w wr w.heap.size 3 {LK with v1:=v1,v2:=v2,vo:=vo,vp:=.slice (some ⟨gp,0,none⟩) 1 zY,vt:=vt,mark:=mark,ps:=LK.ps++[p],tl:=tl,ls:=LK.ls++nk,os:=os})) (fun _ i _=>20000000000000-(intOf i).toNat)
      case atStart=>exact⟨0,⟨#[]⟩,rfl,bK _,rfl,rfl,sw.out⟩
      case round=>
       clear sw;obtain⟨k,tb,Ji,PU,rfl,rfl,HS⟩:=hrel;have qo:=PU.out;have gw:=HS.out.gz;by_cases V0:∃l aI bI cI,a=some aI/\ins[0]?=some l/\0<ins.length/\w.cell? aI=some (.slice bI l.length cI)/\Sl w (.slice bI l.length cI) l/\k<l.length
       ·obtain⟨l,aI,bI,cI,rfl,hx,yH,dI,ng,pz⟩:=V0
        obtain⟨x,hxk⟩:∃x,l[k]?=some x:=⟨_,aS pz⟩;obtain⟨a2,rfl,d2⟩:=(ng.Z gw).get k x hxk;have P4:=aG gw dI;have oF:=Hl.out l (bU hx);have hcv:(convert 41 9 (.slice (some ⟨wr.heap.size,0,none⟩) 1 1)).run prog (wr.alloc (.cells #[.int .u8 (x%256)] 5))=.ok (.string (S8 [b8 x])) (wr.alloc (.cells #[.int .u8 (x%256)] 5)):=anU wr [x];have gL:=ae (HS.out.grow (aQ wr (.cells #[.int .u8 (x%256)] 5) none));have av3:Hid ((tb++S8 [b8 x]).size=k+1):=by unfold Hid;rw[ByteArray.size_append,Ji.out];rfl
        have htz:tb.size<=17592186043904:=by rw[Ji.out];exact qo
        have hsx:(S8 [b8 x]).size=1:=by rw[aj6];rfl
        clear ng hxk dI gw hx HS VZ;go_wp2;go_roundw
        case rel=>exact⟨k+1,tb++S8 [b8 x],av3,(show k+1<=_ by omega),rfl,by go_num,gL⟩
        case measure=>simp[intOf];omega
       ·have hex:(ins.length=0/\True)\/∃l aI bI cI,a=some aI/\0<ins.length/\wr.cell? aI=some (.slice bI l cI)/\¬((k:Int)<(l:Nat)):=by
         rcases VZ with hz|⟨l,aI,bI,cI,ea,hx,yH,dI,ng⟩
         ·exact .inl ⟨hz,trivial⟩
         ·exact .inr ⟨l.length,aI,bI,cI,ea,yH,aG gw dI,fun h=>V0 ⟨l,aI,bI,cI,ea,hx,yH,dI,ng,by omega⟩⟩
        obtain⟨V4,V5,yx,hR⟩:=HS.out.P3 (i:=0) (p:=p) rfl;have e0:(Value.slice (some ⟨gp,0,none⟩) 1 zY)=.slice (some ⟨V4,0,none⟩) 1 V5:=yx;injection e0 with e1 _ e2;injection e1 with e1;injection e1 with e1;subst e1 e2;have c0:wr.cell? ⟨w.heap.size,0,none⟩=some (.slice (some ⟨gp,0,none⟩) 1 zY):=HS.out.L.cell 0;have HR:=ae hR;have HC:=ae (ahew HS.out (by omega) (p:=p) (List.mem_singleton.2 rfl) tb (by have:=Ji.out;omega));clear V0 hR yx gw HS VZ;rcases hex with⟨hz,ht⟩|⟨l,aI,bI,cI,ea,yH,dI,sP⟩
        all_goals
         try subst ea
         go_wp2_with(refine wpList_load_mid rfl 39 _ rfl gp 0 rfl [.pointer (some ⟨p.q,0,none⟩),.pointer (some ⟨p.gb,0,none⟩)] _ HR.out underlying39 rfl Tryz.Ia ?_);refine HC.out.mono ?_;rintro e w6⟨rfl,-,v1',v2',vk,nk',V6,DC⟩;obtain⟨V4,V5,yx,lN⟩:=DC.P3 (i:=0) (p:=p) rfl;have e0:(Value.slice (some ⟨gp,0,none⟩) 1 zY)=.slice (some ⟨V4,0,none⟩) 1 V5:=yx;injection e0 with e1 _ e2;injection e1 with e1;injection e1 with e1;subst e1 e2;obtain⟨V7,Ib,pQ,Ff⟩:=DC.lin;obtain⟨ar,cr,er⟩:=gP DC.kr;have er':vk=.slice ar V6.length cr:=er;subst er';have c0':w6.cell? ⟨w.heap.size,0,none⟩=some (.slice (some ⟨gp,0,none⟩) 1 zY):=DC.L.cell 0;have c6':w6.cell? ⟨w.heap.size,6,none⟩=some (.slice ar V6.length cr):=DC.L.cell 6;have GG:=DC.nr;have Lp:=ae DC;have HR6:=ae lN;have CD:=ae Ib;have Hb6:=ae Ff;have d0:w6.cell? ⟨gp,0,none⟩=some (.pointer (some ⟨p.q,0,none⟩)):=lN 0 _ rfl;have d1:w6.cell? ⟨gp,1,none⟩=some (.pointer (some ⟨p.gb,0,none⟩)):=lN 1 _ rfl;have DB:=ae (VV (Lp.out.grow (gE w6 none)) (by omega) (p:=p) (List.mem_singleton.2 rfl) ar V6.length cr V7 (CD.out.Z (gE w6 none)) (fun l hl=>by have:=Hb6.out l hl;omega) (by have:=GG;simp only at this;omega));clear DC lN yx Ib Ff er c0 HC HR;go_wp2_with fail;go_still_tail 11,(by kernel_rfl);show wpList _ _ _ _ _ (World.drew _);clear c0' c6' d0 d1;generalize w6.drew=w7 at *;go_wp2_with fail;refine DB.out.mono ?_;rintro e w8⟨rfl,-,ahm,ahn,av9,aho,awa,xi⟩;have HC8:=ae (ag5 xi (by omega));have fD:=ae xi.gz;clear xi DB Lp CD Hb6 HR6;go_wp2_with fail;refine HC8.out.mono ?_;rintro e w9⟨rfl,jX⟩;have jh:=ae (aC fD.out jX);clear jX HC8 fD;go_wp2;go_ret;exact⟨rfl,jh.out⟩
end Go.Proofs.YtcnhfffgbamonaaGreat
