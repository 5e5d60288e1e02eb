import Derived.Test.YtcnhfffgbamonaaGreatZ52
set_option maxRecDepth 100000
set_option maxHeartbeats 6400000
namespace Go.Proofs.YtcnhfffgbamonaaGreat
open Go.Proofs.Tryz
open RowKit
theorem afY(b base p gb B C:Nat)(vp vl vw va vn ve vr vt vo:Value)(mark:Int)(tl:List Td)(md:M.Md)(w:World)
  (hL:LW w b vp vl vw va vn ve vr vt (.int .i64 mark) vo) (hT:Ts w base vt tl) (Dw:∀t∈tl,∀g∈t.iG,g≠b/\vt.ownBlock≠some g)
  (hP:zP w B C p md) (hG:yn w B C gb (R.dp md)) (hC:C<=w.heap.size) (hb:¬(B<=b/\b<C)) (hv:∀g,vt.ownBlock=some g->g≠b/\¬(B<=g/\g<C)) (zg:base<=w.heap.size) (m0:0<=mark) (m1:mark<=900000000000) (hn:tl.length<=100000000) (h1:O.iP md):
 Calls prog 35 #[.pointer (some ⟨b,0,none⟩),.pointer (some ⟨p,0,none⟩),.pointer (some ⟨gb,0,none⟩)] w fun e w'=>e=.returned (.bool true)/\∃gt ct gM,
   LW w' b vp vl vw va vn ve vr (.slice (some ⟨gt,0,none⟩) (tl.length+3) ct) (.int .i64 (mark+3*(4+(lT md).length))) vo/\gM.length=3/\Ts w' base (.slice (some ⟨gt,0,none⟩) (tl.length+3) ct) (tl++gM)/\(∀t∈gM,∀g∈t.iG,w.heap.size<=g) /\
   (∀t∈tl++gM,∀g∈t.iG,g≠b/\g≠gt)/\(vt.ownBlock=some gt\/w.heap.size<=gt)/\Fr (fun k=>k=b\/vt.ownBlock=some k) w w':=by
 obtain⟨f1,f2,f3,f4,f5,f6,f7,f8,f9,FP,Em⟩:=Pf h1;have GR:=ae (fun(w:World) (h:Pl w p md)=>asd p md w h (by omega));have Of:=ae (fun(i:Nat) (x:Int) (hx:(gC md.au)[i]?=some x)=>ZV h1 hx);have HF:=ae h1.dQ;obtain⟨bs,BU⟩:∃bs,Hid (pB md=bs):=⟨_,rfl⟩;obtain⟨ss,Hss⟩:∃ss,Hid (lT md=ss):=⟨_,rfl⟩;obtain⟨is,His⟩:∃is,Hid (sC md=is):=⟨_,rfl⟩;obtain⟨us,Hus⟩:∃us,Hid (wS md=us):=⟨_,rfl⟩;rw[BU.out] at f1 f2 f4 GR Of;rw[Hss.out] at f1 f2 f3 f5 Em GR;rw[His.out] at f1 f2 f7 f8 GR;rw[Hus.out] at f1 f2 f3 f9 FP GR;rw[Hss.out];have Hf1:=ae f1;have Hf2:=ae f2;have Hf3:=ae f3;have GS:=ae Em;have my:=ae f7;have SU:=ae f9;have HT:=ae hT;have E7:=ae Dw;have HP:=ae hP;have HG:=ae hG;have Hv:=ae hv;have Hb:=ae hb;have HL:=ae hL;have dh:=hL.lt;have CA:Hid (lF w gb (R.dp md)):=hG.KS;have auJ:(R.dp md).aK.length=us.length:=f9.symm;have ay7:ss.length<=(R.dp md).ag.length:=by show ss.length<=(md.ag.map R.bJ).length;rw[jb];exact f5
 have GN:(R.jT (R.dp md).ts).length=is.length:=by
  show(R.idxTo md.au md.au.length).length=_;rw[R.GH _ _ (bj _),f7];unfold H.cy gC;rw[jm,jb];rfl
 clear f1 f2 f3 f7 f9 Em hT Dw hP hG hv hb hL;go_enter func35,ntmps35;go_wp2_with fail;refine(GR.out w HP.out.pl).mono ?_;rintro e w1⟨⟨g0,G,gs,g2,g3,rfl,lQ⟩,aH⟩;have SO:=lQ.lt;have gA:=aQ w1 (.cells (nU g0 G g2 g3 bs ss is us) 119) none;have B7:=ae (aj.bA w1 119 (nU g0 G g2 g3 bs ss is us));have jF:=ae (lQ.Z gA);have dU:=ae (aC aH gA);have Ef:(w1.alloc (.cells (nU g0 G g2 g3 bs ss is us) 119)).heap.size=w1.heap.size+1:=by simp
 obtain⟨W2,Lo⟩:∃W,Hid (w1.alloc (.cells (nU g0 G g2 g3 bs ss is us) 119)=W):=⟨_,rfl⟩;rw[Lo.out] at B7 jF dU Ef;have af1:=ae (HP.out.hZ (zO dU.out hC));have WM:w.heap.size<w1.heap.size:=by omega
 have auK:=ae SO;clear lQ aH gA;go_wp2_with fail;rw[Lo.out];refine(ZX p md W2 af1.out.pl).mono ?_;rintro e w3⟨rfl,aU⟩;rw[BU.out];have fR:=ae (aC dU.out aU);have B73:=ae (B7.out.kept aU (by simp));have mr:=ae (jF.out.Z aU);clear aU af1 B7 jF dU Lo;go_wp2_with fail;refine(Ul gb (R.dp md) w3 (CA.out.Z fR.out) (by have:=HF.out.nt;exact this)).mono ?_;rintro e w4⟨⟨ai,ci,rfl,Vi⟩,bm⟩;rw[GN];rw[GN] at Vi;have fC:=ae (aC fR.out bm);have GU:=ae (B73.out.kept bm (by simp));have ky:=ae (mr.out.Z bm);have HX4:=ae (Vi.sl);have af4:=ae (HP.out.hZ (zO fC.out hC));clear bm Vi fR B73 mr;go_wp2_with fail;refine(anZ p md w4 af4.out.pl).mono ?_;rintro e w5⟨rfl,rfl⟩;rw[<-my.out];have t0:w5.cell? ⟨w1.heap.size,0,none⟩=some (.slice (some ⟨g0,0,none⟩) bs.length bs.length):=GU.out.cell 0;have t1:w5.cell? ⟨w1.heap.size,1,none⟩=some (.slice (some ⟨G,0,none⟩) ss.length ss.length):=GU.out.cell 1;have t2:w5.cell? ⟨w1.heap.size,2,none⟩=some (.slice (some ⟨g2,0,none⟩) is.length is.length):=GU.out.cell 2;have t3:w5.cell? ⟨w1.heap.size,3,none⟩=some (.slice (some ⟨g3,0,none⟩) us.length us.length):=GU.out.cell 3;obtain⟨a1,c1,a2,c2,a3,c3,E8,Lx,hgO,hgU⟩:=CA.out.Z fC.out;have u1:w5.cell? ⟨gb,1,none⟩=some (.slice a2 (R.dp md).ag.length c2):=E8.cell 1;have u2:w5.cell? ⟨gb,2,none⟩=some (.slice a3 (R.dp md).aK.length c3):=E8.cell 2;rw[auJ] at u2;generalize (R.dp md).ag.length=auN at *;have v1:((is.length:Int)!=(is.length:Int))=false:=by simp
 have v2:((us.length:Int)!=(us.length:Int))=false:=by simp
 have v3:decide ((ss.length:Int) > (auN:Int))=false:=eE (by omega);have PH:=ae Lx;have PI:=ae E8;clear hgO hgU Lx E8;go_wp2;go_quiet(fail);have gq:=bE w5 nq none;have kI:=ae (aC fC.out gq);have Vj:=ae (GU.out.kept gq (by simp));have CD:=ae (ky.out.Z gq);have HX6:=ae (HX4.out.Z gq);have s0:=aG gq t0;have s1:=aG gq t1;have s2:=aG gq t2;have s3:=aG gq t3;have hz6:w1.heap.size<(w5.drewN nq).heap.size:=by have:=Vj.out.lt;exact this
 clear gq t0 t1 t2 t3 u1 u2 fC GU ky HX4 af4 v3 PH PI;generalize w5.drewN nq=w6 at *;have HCl:Hid (Calls prog 77 #[.int .i64 bs.length,.slice (some ⟨G,0,none⟩) ss.length ss.length,.slice (some ⟨g2,0,none⟩) is.length is.length,.slice (some ⟨g3,0,none⟩) us.length us.length] w6 fun e w'=>e=.returned (.tuple #[.slice (some ⟨w6.heap.size,0,none⟩) bs.length bs.length,.bool true])/\aj w' w6.heap.size 173 ((T.uJ bs.length ss is us).flatMap kA).toArray/\w6.grownBy w' none):=by
  obtain⟨q1,⟨Bq,q2⟩,q3,q4,-⟩:=CD.out;exact apy bs.length G g2 is.length g3 us.length ss is us w6 q2.Kg (CO q3 rfl) (CO q4 rfl) (by omega) (by omega) (by omega) (by omega) GS.out Hf1.out
 go_wp2_with fail;refine HCl.out.mono ?_;rintro e w7⟨rfl,hB7,dJ⟩;have lA:=ae (aC kI.out dJ);have Lz:=ae (Vj.out.kept dJ (by simp));have PJ:=ae (CD.out.Z dJ);have HX7:=ae (HX6.out.Z dJ);have HL7:=ae hB7;have hz7:w1.heap.size<w7.heap.size:=by have:=Lz.out.lt;exact this
 clear dJ hB7 HCl s0 s1 s2 s3 kI Vj CD HX6;obtain⟨a1,c1,a2,c2,a3,c3,E8,Lx,-,-⟩:=CA.out.Z lA.out;have PH:=ae Lx;have PI:=ae E8;have HIx:Hid (∀(i:Nat) x,(R.jT (R.dp md).ts)[i]?=some x->∃(n:Nat) (t:M.Tn),x=n/\n<md.au.length/\md.au[n]?=some t/\(gC md.au)[i]?=some (M.cellsOf t)):=fun i x hx=>by
  obtain⟨n,t,e,hn,ht,k0,hc⟩:=R.KR md.au md.au.length (bj _) i x hx;exact⟨n,t,e,hn,ht,by rw[<-hc];exact N6 ht k0⟩
 clear Lx E8;go_wp2;go_loopw[13] (fun i wr=>∃k:Nat,k<=is.length/\i=.int .i64 k/\w7.grownBy wr none) (fun i _=>is.length-(intOf i).toNat)
 case atStart=>exact⟨0,bK _,rfl,fZ _ _⟩
 case round=>
  obtain⟨k,hk,rfl,aF⟩:=hrel;by_cases aJ:k<is.length
  ·obtain⟨x,hx⟩:∃x,(R.jT (R.dp md).ts)[k]?=some x:=⟨_,aS (by rw[GN];exact aJ)⟩
   obtain⟨ad,rfl,dx⟩:=(HX7.out.Z aF).get k x hx;obtain⟨nt,t,rfl,CN,ht,hlx⟩:=HIx.out k x hx;obtain⟨ga,_,_,rfl,-,-,-,-,e1,e2,e3,-,-⟩:=(PH.out.Z aF).get nt t ht;have e0:wr.cell? ⟨gb,0,none⟩=some (.slice (some ⟨ga,0,none⟩) (R.dp md).ts.length c1):=(PI.out.kept aF (by simp)).cell 0;have gQ:(R.dp md).ts.length=md.au.length:=rfl;rw[gQ] at e0;have Cy:md.au.length<=255:=HF.out.nt;have HPk:=ae (HP.out.hZ (zO (aC lA.out aF) hC));have wt:=R.afV (HF.out.ts t (bU ht));obtain⟨q0,q1,q2,q3⟩:=xn wt.h0 wt.h1 wt.w0 wt.w1 wt.c0 wt.c1;have m1':IntKind.i64.wrap (t.h*t.w)=t.h*t.w:=by rw[cU];omega
   have m2':IntKind.i64.wrap (t.h*t.w*t.c)=t.h*t.w*t.c:=by rw[cU];omega
   have Vk:(gC md.au)[k]?=some (t.h*t.w*t.c):=hlx;obtain⟨bf,Vl,Vc,-⟩:=Of.out k _ Vk;have UT:=ae (fun(W:World) (h:Pl W p md)=>ZW p k (t.h*t.w*t.c) md W h Vk);obtain⟨r0,r1⟩:=ac1 (PJ.out.Z aF).b Vl;rw[Vc] at r1;have Qk:=M.bP Vl;obtain⟨ad2,Vm,dk⟩:=(CO (c:=is.length) (PJ.out.Z aF).i rfl).get k (k:Int) (by rw[<-His.out];unfold sC;rw[dV,List.getElem?_range (by rw[<-my.out];exact aJ)];rfl);injection Vm with Vm;subst Vm;rw[vy] at dk;have t0:wr.cell? ⟨w1.heap.size,0,none⟩=some (.slice (some ⟨g0,0,none⟩) bs.length bs.length):=(Lz.out.kept aF (by simp)).cell 0;have t2:wr.cell? ⟨w1.heap.size,2,none⟩=some (.slice (some ⟨g2,0,none⟩) is.length is.length):=(Lz.out.kept aF (by simp)).cell 2;have vv:(t.h*t.w*t.c !=t.h*t.w*t.c)=false:=by simp
   have bH:=ae aF;clear hx ht hlx Vk Vl Vc aF wt q0 q1 q2 q3 r0;go_wp2;go_quiet(fail);have gq:=bE wr nq none;have iy:=ae (aC bH.out gq);have HPq:=ae (HPk.out.hZ (zO gq (by have:=(aC lA.out bH.out).size;omega)));have y1:=aG gq e1;have y2:=aG gq e2;have y3:=aG gq e3;have z0:=aG gq t0;have z2:=aG gq t2;have zk:=aG gq dk;have zr:=aG gq r1;clear gq e0 e1 e2 e3 t0 t2 dk r1 dx bH HPk;generalize wr.drewN nq=wq at *;go_wp2_with fail;refine(UT.out wq HPq.out.pl).mono ?_;rintro e wz⟨rfl,rfl⟩;go_wp2;go_quiet(fail);have HGz:=ae (aC iy.out (bE wz nq none));go_wp2;go_roundw
   case rel=>exact⟨k+1,by omega,by go_num,HGz.out⟩
   case measure=>simp[intOf];omega
  ·obtain rfl:k=is.length:=by omega
   have fD:=ae (aC lA.out aF);have GV:=ae (Lz.out.kept aF (by simp));have iT:=ae (PJ.out.Z aF);have Jw:=ae (HL7.out.kept aF (by simp));have HP8:=ae (HP.out.hZ (zO fD.out hC));have hz8:w1.heap.size<wr.heap.size:=by have:=GV.out.lt;exact this
   have Vn:=ae (ar9 p md wr HP8.out.pl);rw[<-my.out] at Vn;have t0:wr.cell? ⟨w1.heap.size,0,none⟩=some (.slice (some ⟨g0,0,none⟩) bs.length bs.length):=GV.out.cell 0;have t1:wr.cell? ⟨w1.heap.size,1,none⟩=some (.slice (some ⟨G,0,none⟩) ss.length ss.length):=GV.out.cell 1;have t3:wr.cell? ⟨w1.heap.size,3,none⟩=some (.slice (some ⟨g3,0,none⟩) us.length us.length):=GV.out.cell 3;have T1:=ae t1;have T3:=ae t3;clear aF lA Lz PJ HX7 HL7 HIx PH PI;go_wp2_with fail;refine Vn.out.mono ?_;rintro e wa⟨rfl,E1⟩;subst E1;clear Vn;go_wp2_with fail;refine(asa p _).mono ?_;rintro e wb⟨rfl,Bs⟩;subst Bs;go_wp2_with fail;refine(apA w6.heap.size g0 bs.length bs.length bs.length (T.uJ bs.length ss is us) bs ss.length wb Jw.out iT.out.b rfl Hf2.out (by omega)).mono ?_;rintro e wc⟨rfl,GX⟩;have HGc:=ae (aC fD.out GX);have B7c:=ae (GV.out.kept GX (by simp));have Vo:=ae (iT.out.Z GX);have rX:=aG GX T1.out;have R0:=aG GX T3.out;clear GX t0 t1 t3 T1 T3 fD GV iT Jw HP8;have HCf:Hid (Calls prog 80 #[.slice (some ⟨G,0,none⟩) ss.length ss.length,.slice (some ⟨g3,0,none⟩) us.length us.length] wc fun e w'=>e=.returned (.bool true)/\wc.grownBy w' none):=by
    obtain⟨q1,⟨Bq,q2⟩,q3,q4,-⟩:=Vo.out;exact apG G g3 us.length ss us wc q2.Kg (CO q4 rfl) (by omega) (by omega) GS.out Hf3.out
   go_wp2_with fail;refine HCf.out.mono ?_;rintro e wd⟨rfl,eH⟩;have ke:=ae (aC HGc.out eH);have PK:=ae (B7c.out.kept eH (by simp));have tA:=ae (Vo.out.Z eH);clear eH rX R0 HGc B7c Vo HCf;have Lk:Hid (Calls prog 81 #[.agg (nU g0 G g2 g3 bs ss is us)] wd fun e w'=>(∃ab fJ ai ao cb cs ci co,e=.returned (.agg #[.slice ab bs.length cb,.slice fJ ss.length cs,.slice ai is.length ci,.slice ao us.length co,.int .i64 0])/\tJ w' wd.heap.size ab fJ ai ao cb cs ci co bs ss is us)/\wd.grownBy w' none):=by
    obtain⟨q1,⟨Bq,q2⟩,q3,q4,-⟩:=tA.out;exact ap1 g0 G g2 g3 0 bs ss is us wd q1 q2.Kg q3 q4 (by omega) (by omega) (by omega) (by omega) GS.out
   go_wp2_with(refine dj rfl 119 _ rfl w1.heap.size rfl 119 (nU g0 G g2 g3 bs ss is us) (0,0) _ PK.out underlying119 rfl Tryz.uK ?_);refine Lk.out.mono ?_;rintro e we⟨⟨ab,fJ,xb,ao,cb,cs,xd,co,rfl,agi⟩,A7⟩;have hsd:w1.heap.size<wd.heap.size:=by have:=PK.out.lt;exact this
   have hse:=A7.size;have B7e:=PK.out.kept A7 (by simp);have gA:=aQ we (.cells #[.slice ab bs.length cb,.slice fJ ss.length cs,.slice xb is.length xd,.slice ao us.length co,.int .i64 0] 119) none;have agk:Hid (∀W:World,nT wd.heap.size we.heap.size we W->tJ W wd.heap.size ab fJ xb ao cb cs xd co bs ss is us):=fun W hs=>agi.apz hs;have rV:=ae (aC (aC ke.out A7) gA);have Vp:=ae (aj.bA we 119 #[.slice ab bs.length cb,.slice fJ ss.length cs,.slice xb is.length xd,.slice ao us.length co,.int .i64 0]);have Vq:=ae (B7e.kept gA (by simp));have Vr:=ae ((tA.out.Z A7).Z gA);have Vs:(we.alloc (.cells #[.slice ab bs.length cb,.slice fJ ss.length cs,.slice xb is.length xd,.slice ao us.length co,.int .i64 0] 119)).heap.size=we.heap.size+1:=by simp
   have Vt:=ae (zO (B:=wd.heap.size) (C:=we.heap.size) gA (bj _));obtain⟨W0,qy⟩:∃W,Hid (we.alloc (.cells #[.slice ab bs.length cb,.slice fJ ss.length cs,.slice xb is.length xd,.slice ao us.length co,.int .i64 0] 119)=W):=⟨_,rfl⟩;rw[qy.out] at rV Vp Vq Vr Vs Vt;have HL0:=ae (HL.out.kept rV.out (by simp));have HT0:=ae (HT.out.Z rV.out);clear agi A7 gA B7e ke PK tA Lk HL;go_wp2;rw[qy.out];go_loopw[21] (fun i wr=>∃(q:Nat) (v:Value) (gM:List Td) (lo h0 H1:Nat) (hs:List Nat) (h2 h3:Nat),q<=3/\i=.int .i64 q/\Hid (aj wr w1.heap.size 119 (nU h0 H1 h2 h3 bs ss is us))/\Hid (aj wr we.heap.size 119 #[.slice ab bs.length cb,.slice fJ ss.length cs,.slice xb is.length xd,.slice ao us.length co,.int .i64 0]) /\
     Hid (Bp wr lo h0 H1 hs h2 h3 bs ss is us)/\Hid (w.heap.size<=lo/\(h3<w1.heap.size\/we.heap.size<lo))/\Hid (LW wr b vp vl vw va vn ve vr v (.int .i64 (mark+q*(4+ss.length))) vo)/\Hid (Ts wr base v (tl++gM))/\Hid (gM.length=q) /\
     Hid (∀t∈tl++gM,∀g∈t.iG,g≠b/\v.ownBlock≠some g/\g<lo)/\Hid (∀t∈gM,∀g∈t.iG,w.heap.size<=g/\g≠w1.heap.size)/\Hid (∀g,v.ownBlock=some g->(vt.ownBlock=some g\/we.heap.size<g)/\g<lo)/\Hid (q=0\/∃gt ct,v=.slice (some ⟨gt,0,none⟩) (tl.length+q) ct) /\
     Hid (nT wd.heap.size we.heap.size we wr)/\Hid (Fr (fun k=>k=b\/vt.ownBlock=some k) w wr)) (fun i _=>3-(intOf i).toNat)
   case atStart=>exact⟨0,vt,[],w.heap.size,g0,G,gs,g2,g3,by decide,rfl,Vq.out,Vp.out,Vr.out,⟨bj _,.inl auK.out.2⟩,by unfold Hid;simpa using HL0.out,by rw[List.append_nil];exact HT0.out,rfl,(fun t ht g hg=>by
     rw[List.append_nil] at ht;have h1:=E7.out t ht g hg;exact⟨h1.1,h1.2,(HT.out.2 t ht).lt g hg⟩),(fun t ht=>aN ht (by simp)),(fun g hg=>⟨.inl hg,(iL HT.out.1 g hg).2⟩),.inl rfl,Vt.out,(Fr.uI rV.out).mono (fun k _ h=>by cases h)⟩
   case round=>
    clear Vq Vp Vr HL0 HT0 Vt rV;obtain⟨q,v,gM,lo,h0,H1,hs,h2,h3,hq,rfl,H7,GY,HI,FX,EP,EO,tP,LA,PL,Dx,Hvs,eJ,rB⟩:=hrel;by_cases aJ:q<3
    ·have HW:=agk.out wr eJ.out
     have q9:w.heap.size<=wr.heap.size:=rB.out.size;have LB:Hid (Calls prog 82 #[.agg (nU h0 H1 h2 h3 bs ss is us),.agg #[.slice ab bs.length cb,.slice fJ ss.length cs,.slice xb is.length xd,.slice ao us.length co,.int .i64 0]] wr fun e w'=>e=.returned (.bool true)/\wr.grownBy w' none):=by
      obtain⟨r1,⟨Bq,r2⟩,r3,r4,-⟩:=HI.out;exact acO h0 H1 h2 h3 ab fJ xb ao cb cs xd co 0 0 bs ss is us wr (acA r1) HW.bsl r2.Kg HW.stq (CO r3 rfl) HW.i.sl (CO r4 rfl) HW.o.sl (by omega) (by omega) (by omega) (by omega) GS.out
     clear HW;go_wp2_with(first|(refine dj rfl 119 _ rfl w1.heap.size rfl 119 (nU h0 H1 h2 h3 bs ss is us) (0,0) _ H7.out underlying119 rfl Tryz.uK ?_)|(refine dj rfl 119 _ rfl we.heap.size rfl 119 #[.slice ab bs.length cb,.slice fJ ss.length cs,.slice xb is.length xd,.slice ao us.length co,.int .i64 0] (0,0) _ GY.out underlying119 rfl Tryz.uK ?_));refine LB.out.mono ?_;rintro e x1⟨rfl,dg⟩;have L1:=EP.out.kept dg (by simp);have T1:=EO.out.Z dg;have EF:=ae (rB.out.iK dg (fun g h=>by cases h));have H71:=ae (H7.out.kept dg (by simp));have Vu:=ae (GY.out.kept dg (by simp));have kS:=ae (HI.out.Z dg);have agp:=ae (eJ.out.trans (zO (B:=wd.heap.size) (C:=we.heap.size) dg (by have:=GY.out.lt;omega)));obtain⟨av,cv,hva⟩:=gP T1.1;have c7:x1.cell? ⟨b,7,none⟩=some v:=L1.cell 7;rw[hva] at c7;have HCt:=ae (acy b base av (tl++gM).length cv (tl++gM) x1 c7 (by rw[<-hva];exact T1) (by rw[nJ,tP.out];omega));have yX:=ae L1;have vY:=ae T1;have hzx:=dg.size;clear dg L1 T1 c7 EP EO rB H7 GY HI eJ LB;go_wp2_with fail;refine HCt.out.mono ?_;rintro e x2⟨rfl,dL⟩;have q8:=ae (yX.out.kept dL (by simp));have sr:=ae (vY.out.Z dL);have tu:=ae (EF.out.iK dL (fun g h=>by cases h));have PM:=ae (H71.out.kept dL (by simp));have Vv:=ae (Vu.out.kept dL (by simp));have jF:=ae (kS.out.Z dL);have lV:=ae (agp.out.trans (zO (B:=wd.heap.size) (C:=we.heap.size) dL (by have:=Vu.out.lt;omega)));have ze:b<lo:=by have:=FX.out.1;omega
     have cZ:=dL.size;have hqm:0<=(q:Int)*(4+(ss.length:Int))/\(q:Int)*(4+(ss.length:Int))<=60:=by
      rcases(show q=0\/q=1\/q=2 by omega) with rfl|rfl|rfl<;>omega
     have ags:=ae (aur b base vp vl vw va vn ve vr v vo (mark+q*(4+ss.length)) (tl++gM) lo h0 H1 hs h2 h3 bs ss is us x2 q8.out sr.out LA.out jF.out ze (fun g hg=>⟨(Dx.out g hg).2,by
      rcases(Dx.out g hg).1 with h|h
      ·exact(Hv.out g h).1
      ·omega⟩) (by omega) (by omega) (by omega) (by rw[nJ,tP.out];omega) (by omega) (by omega) (by omega) (by omega) GS.out)
     clear dL yX vY EF H71 Vu kS agp HCt;go_wp2_with(refine dj rfl 119 _ rfl w1.heap.size rfl 119 (nU h0 H1 h2 h3 bs ss is us) (0,0) _ PM.out underlying119 rfl Tryz.uK ?_);refine ags.out.mono ?_;rintro e x3⟨rfl,gt,ct,td,yB,It,RY,agt,agu,zX⟩;have zH:=jF.out;have azf:w1.heap.size<x2.heap.size:=PM.out.lt;have azg:we.heap.size<x2.heap.size:=Vv.out.lt;have auR:lo<=h0/\h0<H1/\H1<h2/\h2<h3:=⟨zH.l0,zH.l1,zH.l3,zH.l4⟩;have agv:∀g,v.ownBlock=some g->g<w.heap.size\/we.heap.size<g:=fun g hg=>by
      rcases(Dx.out g hg).1 with h|h
      ·exact .inl (iL HT.out.1 g h).2
      ·exact .inr h
     have me:=FX.out;have S7:∀k,w.heap.size<=k->k<=we.heap.size->(w1.heap.size<=k)->¬(k=b\/v.ownBlock=some k\/(h0<=k/\k<=h3)):=by
      intro k k0 k1 k2 h;rcases h with h|h|h
      ·omega
      ·have:=agv k h;omega
      ·rcases me.2 with c|c<;>omega
     have Vw:=zX.gy PM.out (S7 _ (by omega) (by omega) (bj _));have agw:=ae (zX.gy Vv.out (S7 _ (by omega) (bj _) (by omega)));have PN:=ae (lV.out.trans (zX.hZ (B:=wd.heap.size) (C:=we.heap.size) (by omega) (fun k hk hh=>S7 k (by omega) (by omega) (by omega) hk)));have yb:=ae (show Fr (fun k=>k=b\/vt.ownBlock=some k) w x3 from ⟨zX.os.trans tu.out.os,zX.tape.trans tu.out.tape,zX.output.trans tu.out.output,jN tu.out.size zX.size,fun k hk hn=>(zX.block k (qN hk tu.out.size) (fun h=>by
      rcases h with h|h|h
      ·exact hn (.inl h)
      ·rcases(Dx.out k h).1 with h' |h'
       ·exact hn (.inr h')
       ·omega
      ·omega)).trans (tu.out.block k hk hn)⟩)
     have uN:=ae (HP.out.hZ (yb.out.hZ hC (fun k hk=>by
      rcases hk with rfl|hk
      ·exact Hb.out
      ·exact(Hv.out k hk).2)))
     have hz3:=zX.size;have qx:=ae yB;have rm:=ae It;have Vx:=ae agu;have agx:=ae RY;have Vy:=ae agt;have agy:=ae auR;have Hz3:=ae hz3;clear yB It RY agt agu zX zH S7 agv me ags q8 sr tu PM Vv jF lV;go_wp2_with fail;refine(GR.out x3 uN.out.pl).mono ?_;rintro e x4⟨⟨k0,K1,ks,k2,k3,rfl,lS⟩,gY⟩;have mC:=agy.out;have vU:=lS.lt;have hz4:=gY.size;have Vz:=Vw.kept gY (by simp);have cC:=vB x4 w1.heap.size (nU k0 K1 k2 k3 bs ss is us);have H75:=ae (setRow_heap x4 w1.heap.size _ (nU k0 K1 k2 k3 bs ss is us) 119 _ Vz);have auT:=ae ((agw.out.kept gY (by simp)).kept cC (by intro e;injection e with e;omega));have azj:w1.heap.size<x3.heap.size:=Vw.lt;have rU:Hid (Bp (x4.setRow w1.heap.size (nU k0 K1 k2 k3 bs ss is us)) x3.heap.size k0 K1 ks k2 k3 bs ss is us):=by
      obtain⟨r1,⟨Bq,r2⟩,r3,r4,r5,r6,r7,r8,r9⟩:=lS;exact⟨r1.kept cC (by intro e;injection e with e;omega),⟨Bq,r2.TJ cC (by omega)⟩,r3.kept cC (by intro e;injection e with e;omega),r4.kept cC (by intro e;injection e with e;omega),r5,r6,r7,r8,r9⟩
     have hqq:(mark+(q:Int)*(4+(ss.length:Int))+4+(ss.length:Int))=mark+((q+1:Nat):Int)*(4+(ss.length:Int)):=by
      rw[show((q+1:Nat):Int)=(q:Int)+1 by omega,Int.add_mul,Int.one_mul];omega
     have CZ:=ae ((qx.out.kept gY (by simp)).kept cC (by intro e;injection e with e;omega));rw[hqq] at CZ;have Jv:Hid (Ts (x4.setRow w1.heap.size (nU k0 K1 k2 k3 bs ss is us)) base (.slice (some ⟨gt,0,none⟩) ((tl++gM).length+1) ct) (tl++(gM++[td]))):=by
      have e1:=rm.out.Z gY;rw[j8] at e1;have cB:∀g,(Value.slice (some ⟨gt,0,none⟩) ((tl++gM).length+1) ct).ownBlock=some g->g=gt:=fun g hg=>by injection hg with hg;exact hg.symm
      refine⟨iF e1.1 cC (fun g hg e=>by
       have e2:=cB g hg;injection e with e;rcases Vx.out with h|h
       ·rw[<-e2,e] at h
        rcases(Dx.out _ h).1 with h' |h'
        ·have:=(iL HT.out.1 _ h').2;omega
        ·omega
       ·omega),fun t ht=>(e1.2 t ht).kept (Fr.uI cC) (fun g hg e=>?_)⟩
      injection e with e;rcases List.mem_append.1 ht with ij|ij
      ·have:=(LA.out t (List.mem_append_left _ ij) g hg).2.2
       have:=(HT.out.2 t ij).lt g hg;omega
      ·rcases List.mem_append.1 ij with D9|D9
       ·have:=(LA.out t (List.mem_append_right _ D9) g hg).2.2
        have h5:=PL.out t D9 g hg;omega
       ·simp at D9;subst D9
        have:=Vy.out g hg;rcases FX.out.2 with c|c<;>omega
     have auU:Hid (∀t∈tl++(gM++[td]),∀g∈t.iG,g≠b/\(Value.slice (some ⟨gt,0,none⟩) ((tl++gM).length+1) ct).ownBlock≠some g/\g<x3.heap.size):=fun t ht g hg=>by
      rw[<-j8] at ht;obtain⟨n1,n2⟩:=agx.out t ht g hg;exact⟨n1,fun e=>n2 (by injection e with e;exact e.symm),(rm.out.2 t ht).lt g hg⟩
     have auV:Hid (∀t∈gM++[td],∀g∈t.iG,w.heap.size<=g/\g≠w1.heap.size):=fun t ht g hg=>by
      rcases List.mem_append.1 ht with ht|ht
      ·exact PL.out t ht g hg
      ·simp at ht;subst ht
       have h5:=Vy.out g hg;have h6:=FX.out;refine⟨by omega,?_⟩;rcases h6.2 with c|c<;>omega
     have auW:Hid (∀g,(Value.slice (some ⟨gt,0,none⟩) ((tl++gM).length+1) ct).ownBlock=some g->(vt.ownBlock=some g\/we.heap.size<g)/\g<x3.heap.size):=fun g hg=>by
      have e:gt=g:=by injection hg
      subst e;refine⟨?_,(iL rm.out.1 gt rfl).2⟩;rcases Vx.out with h|h
      ·exact(Dx.out gt h).1
      ·exact .inr (by omega)
     have auX:Hid (q+1=0\/∃Y5 ct',Value.slice (some ⟨gt,0,none⟩) ((tl++gM).length+1) ct=.slice (some ⟨Y5,0,none⟩) (tl.length+(q+1)) ct'):=.inr ⟨gt,ct,by rw[nJ,tP.out,Nat.add_assoc]⟩;have auZ:=ae (PN.out.trans ((zO (B:=wd.heap.size) (C:=we.heap.size) gY (by omega)).trans ((Fr.uI cC).hZ (by omega) (fun k hk=>by injection hk with hk;omega))));have OQ:=ae ((yb.out.iK gY (fun g h=>by cases h)).iK cC (fun g hg=>.inl (by injection hg with hg;omega)));have au0:=ae Vz;have au1:Hid ((gM++[td]).length=q+1):=by unfold Hid;simp[tP.out]
     have au2:Hid (w.heap.size<=x3.heap.size/\(k3<w1.heap.size\/we.heap.size<x3.heap.size)):=⟨by omega,.inr (by omega)⟩;clear Vz cC gY lS hqq qx rm agx Vy Vx PN yb uN agw LA PL Dx Hvs agy hqm Vw;go_wp2_with(refine aaY rfl 119 _ _ rfl w1.heap.size (nU k0 K1 k2 k3 bs ss is us) rfl rfl 119 (nU h0 H1 h2 h3 bs ss is us) au0.out Tryz.uK rfl (by simp[Value.oneCell']) ?_);go_roundw
     case rel=>exact⟨q+1,.slice (some ⟨gt,0,none⟩) ((tl++gM).length+1) ct,gM++[td],x3.heap.size,k0,K1,ks,k2,k3,by omega,by go_num,H75.out,auT.out,rU.out,au2.out,CZ.out,Jv.out,au1.out,auU.out,auV.out,auW.out,auX.out,auZ.out,OQ.out⟩
     case measure=>simp[intOf];omega
    ·obtain rfl:q=3:=by omega
     have HW:=agk.out wr eJ.out;have LB:Hid (Calls prog 82 #[.agg (nU h0 H1 h2 h3 bs ss is us),.agg #[.slice ab bs.length cb,.slice fJ ss.length cs,.slice xb is.length xd,.slice ao us.length co,.int .i64 0]] wr fun e w'=>e=.returned (.bool true)/\wr.grownBy w' none):=by
      obtain⟨r1,⟨Bq,r2⟩,r3,r4,-⟩:=HI.out;exact acO h0 H1 h2 h3 ab fJ xb ao cb cs xd co 0 0 bs ss is us wr (acA r1) HW.bsl r2.Kg HW.stq (CO r3 rfl) HW.i.sl (CO r4 rfl) HW.o.sl (by omega) (by omega) (by omega) (by omega) GS.out
     clear HW;go_wp2_with(first|(refine dj rfl 119 _ rfl w1.heap.size rfl 119 (nU h0 H1 h2 h3 bs ss is us) (0,0) _ H7.out underlying119 rfl Tryz.uK ?_)|(refine dj rfl 119 _ rfl we.heap.size rfl 119 #[.slice ab bs.length cb,.slice fJ ss.length cs,.slice xb is.length xd,.slice ao us.length co,.int .i64 0] (0,0) _ GY.out underlying119 rfl Tryz.uK ?_));refine LB.out.mono ?_;rintro e x1⟨rfl,dg⟩;have yX:=ae (EP.out.kept dg (by simp));have vY:=ae (EO.out.Z dg);have EF:=ae (rB.out.iK dg (fun g h=>by cases h));clear dg EP EO rB H7 GY HI eJ LB;go_wp2;go_ret;obtain⟨gt,ct,hv⟩:=Hvs.out.resolve_left (by decide);have e1:=yX.out;have e2:=vY.out;rw[hv] at e1 e2;refine⟨rfl,gt,ct,gM,e1,tP.out,e2,fun t ht g hg=>(PL.out t ht g hg).1,fun t ht g hg=>?_,?_,EF.out⟩
     ·obtain⟨n1,n2,-⟩:=LA.out t ht g hg
      rw[hv] at n2;exact⟨n1,fun e=>n2 (by subst e;rfl)⟩
     ·have:=Dx.out gt (by rw[hv];rfl)
      rcases this.1 with h|h
      ·exact .inl h
      ·exact .inr (by omega)
end Go.Proofs.YtcnhfffgbamonaaGreat
