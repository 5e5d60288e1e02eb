import Derived.Test.YtcnhfffgbamonabGreatZ52
set_option maxRecDepth 100000
set_option maxHeartbeats 6400000
namespace Go.Proofs.YtcnhfffgbamonabGreat
open Go.Proofs.Tryz
open Go.RowKit
theorem ae7(b base p gb B C:Nat)(vp vl vw va vn ve vr vt vo:Value)(mark:Int)(tl:List Td)(md:M.Md)(w:World)
  (hL:LW w b vp vl vw va vn ve vr vt (.int .i64 mark) vo) (hT:Ts w base vt tl) (Df:∀t∈tl,∀g∈t.iE,g≠b/\vt.ownBlock≠some g)
  (hP:zu w B C p md) (hG:xY w B C gb (R.dp md)) (hC:C<=w.heap.size) (hb:¬(B<=b/\b<C)) (hv:∀g,vt.ownBlock=some g->g≠b/\¬(B<=g/\g<C)) (yK:base<=w.heap.size) (m0:0<=mark) (m1:mark<=900000000000) (hn:tl.length<=100000000) (h1:O.iN md) :
  Calls prog 45 #[.pointer (some ⟨b,0,none⟩),.pointer (some ⟨p,0,none⟩),.pointer (some ⟨gb,0,none⟩)] w fun e w'=>e=.returned (.bool true)/\∃gt ct gJ,
   LW w' b vp vl vw va vn ve vr (.slice (some ⟨gt,0,none⟩) (tl.length+3) ct) (.int .i64 (mark+3*(4+(lQ md).length))) vo/\gJ.length=3/\Ts w' base (.slice (some ⟨gt,0,none⟩) (tl.length+3) ct) (tl++gJ)/\(∀t∈gJ,∀g∈t.iE,w.heap.size<=g) /\
   (∀t∈tl++gJ,∀g∈t.iE,g≠b/\g≠gt)/\(vt.ownBlock=some gt\/w.heap.size<=gt)/\Fr (fun k=>k=b\/vt.ownBlock=some k) w w':=by
 obtain⟨f1,f2,f3,f4,f5,f6,f7,f8,f9,f10,f11⟩:=OG h1;have Gq:=ae (fun(w:World) (h:Pl w p md)=>aq7 p md w h (by omega));have ND:=ae (fun(i:Nat) (x:Int) (hx:(gk md.au)[i]?=some x)=>Y0 h1 hx);have HF:=ae h1.dQ;obtain⟨bs,BF⟩:∃bs,Hid (pB md=bs):=⟨_,rfl⟩;obtain⟨ss,Hss⟩:∃ss,Hid (lQ md=ss):=⟨_,rfl⟩;obtain⟨is,His⟩:∃is,Hid (se md=is):=⟨_,rfl⟩;obtain⟨us,Hus⟩:∃us,Hid (wF md=us):=⟨_,rfl⟩;rw[BF.out] at f1 f2 f4 Gq ND;rw[Hss.out] at f1 f2 f3 f5 f11 Gq;rw[His.out] at f1 f2 f7 f8 Gq;rw[Hus.out] at f1 f2 f3 f9 f10 Gq;rw[Hss.out];have Hf1:=ae f1;have Hf2:=ae f2;have Hf3:=ae f3;have Gs:=ae f11;have mn:=ae f7;have Sg:=ae f9;have HT:=ae hT;have EM:=ae Df;have HP:=ae hP;have HG:=ae hG;have Hv:=ae hv;have Hb:=ae hb;have HL:=ae hL;have dh:=hL.lt;have Cl:Hid (lB w gb (R.dp md)):=hG.Ks;have atF:(R.dp md).aJ.length=us.length:=f9.symm;have ax0:ss.length<=(R.dp md).ag.length:=by show ss.length<=(md.ag.map R.bJ).length;rw[jh];exact f5
 have Gl:(R.jQ (R.dp md).ts).length=is.length:=by
  show(R.idxTo md.au md.au.length).length=_;rw[R.Ge _ _ (bj _),f7];unfold H.cy gk;rw[jo,jh];rfl
 clear f1 f2 f3 f7 f9 f11 hT Df hP hG hv hb hL;go_enter func45,ntmps45;go_wp2_with fail;refine(Gq.out w HP.out.pl).mono ?_;rintro e w1⟨⟨g0,G,gs,g2,g3,rfl,lM⟩,aH⟩;have Sa:=lM.lt;have gA:=aQ w1 (.cells (nM g0 G g2 g3 bs ss is us) 132) none;have B7:=ae (aj.bB w1 132 (nM g0 G g2 g3 bs ss is us));have jE:=ae (lM.Z gA);have dZ:=ae (aC aH gA);have DU:(w1.alloc (.cells (nM g0 G g2 g3 bs ss is us) 132)).heap.size=w1.heap.size+1:=by simp
 obtain⟨W2,KO⟩:∃W,Hid (w1.alloc (.cells (nM g0 G g2 g3 bs ss is us) 132)=W):=⟨_,rfl⟩;rw[KO.out] at B7 jE dZ DU;have afa:=ae (HP.out.gZ (zt dZ.out hC));have VV:w.heap.size<w1.heap.size:=by omega
 have atG:=ae Sa;clear lM aH gA;go_wp2_with fail;rw[KO.out];refine(Y4 p md W2 afa.out.pl).mono ?_;rintro e w3⟨rfl,aU⟩;rw[BF.out];have fW:=ae (aC dZ.out aU);have B73:=ae (B7.out.kept aU (by simp));have mi:=ae (jE.out.Z aU);clear aU afa B7 jE dZ KO;go_wp2_with fail;refine(TI gb (R.dp md) w3 (Cl.out.Z fW.out) (by have:=HF.out.nt;exact this)).mono ?_;rintro e w4⟨⟨ai,ci,rfl,UJ⟩,bm⟩;rw[Gl];rw[Gl] at UJ;have fB:=ae (aC fW.out bm);have Gt:=ae (B73.out.kept bm (by simp));have kl:=ae (mi.out.Z bm);have HX4:=ae (UJ.sl);have afd:=ae (HP.out.gZ (zt fB.out hC));clear bm UJ fW B73 mi;go_wp2_with fail;refine(amU p md w4 afd.out.pl).mono ?_;rintro e w5⟨rfl,rfl⟩;rw[<-mn.out];have t0:w5.cell? ⟨w1.heap.size,0,none⟩=some (.slice (some ⟨g0,0,none⟩) bs.length bs.length):=Gt.out.cell 0;have t1:w5.cell? ⟨w1.heap.size,1,none⟩=some (.slice (some ⟨G,0,none⟩) ss.length ss.length):=Gt.out.cell 1;have t2:w5.cell? ⟨w1.heap.size,2,none⟩=some (.slice (some ⟨g2,0,none⟩) is.length is.length):=Gt.out.cell 2;have t3:w5.cell? ⟨w1.heap.size,3,none⟩=some (.slice (some ⟨g3,0,none⟩) us.length us.length):=Gt.out.cell 3;obtain⟨a1,c1,a2,c2,a3,c3,EN,KU,hgO,hgU⟩:=Cl.out.Z fB.out;have u1:w5.cell? ⟨gb,1,none⟩=some (.slice a2 (R.dp md).ag.length c2):=EN.cell 1;have u2:w5.cell? ⟨gb,2,none⟩=some (.slice a3 (R.dp md).aJ.length c3):=EN.cell 2;rw[atF] at u2;generalize (R.dp md).ag.length=atJ at *;have v1:((is.length:Int) != (is.length:Int))=false:=by simp
 have v2:((us.length:Int) != (us.length:Int))=false:=by simp
 have v3:decide ((ss.length:Int) > (atJ:Int))=false:=eD (by omega);have O9:=ae KU;have Pa:=ae EN;clear hgO hgU KU EN;go_wp2;go_quiet (fail);have gq:=bF w5 nq none;have kD:=ae (aC fB.out gq);have UK:=ae (Gt.out.kept gq (by simp));have Jk:=ae (kl.out.Z gq);have HX6:=ae (HX4.out.Z gq);have s0:=aG gq t0;have s1:=aG gq t1;have s2:=aG gq t2;have s3:=aG gq t3;have hz6:w1.heap.size<(w5.drewN nq).heap.size:=by have:=UK.out.lt;exact this
 clear gq t0 t1 t2 t3 u1 u2 fB Gt kl HX4 afd v3 O9 Pa;generalize w5.drewN nq=w6 at *;have HCl:Hid (Calls prog 77 #[.int .i64 bs.length,.slice (some ⟨G,0,none⟩) ss.length ss.length,.slice (some ⟨g2,0,none⟩) is.length is.length,.slice (some ⟨g3,0,none⟩) us.length us.length] w6 fun e w'=>e=.returned (.tuple #[.slice (some ⟨w6.heap.size,0,none⟩) bs.length bs.length,.bool true])/\aj w' w6.heap.size 186 ((T.ux bs.length ss is us).flatMap ko).toArray/\w6.grownBy w' none):=by
  obtain⟨q1,⟨Bq,q2⟩,q3,q4,-⟩:=Jk.out;exact aoq bs.length G g2 is.length g3 us.length ss is us w6 q2.JJ (Cz q3 rfl) (Cz q4 rfl) (by omega) (by omega) (by omega) (by omega) Gs.out Hf1.out
 go_wp2_with fail;refine HCl.out.mono ?_;rintro e w7⟨rfl,hB7,dJ⟩;have lk:=ae (aC kD.out dJ);have KV:=ae (UK.out.kept dJ (by simp));have Pb:=ae (Jk.out.Z dJ);have HX7:=ae (HX6.out.Z dJ);have HL7:=ae hB7;have hz7:w1.heap.size<w7.heap.size:=by have:=KV.out.lt;exact this
 clear dJ hB7 HCl s0 s1 s2 s3 kD UK Jk HX6;obtain⟨a1,c1,a2,c2,a3,c3,EN,KU,-,-⟩:=Cl.out.Z lk.out;have O9:=ae KU;have Pa:=ae EN;have HIx:Hid (∀(i:Nat) x,(R.jQ (R.dp md).ts)[i]?=some x->∃(n:Nat) (t:M.Tn),x=n/\n<md.au.length/\md.au[n]?=some t/\(gk md.au)[i]?=some (M.cellsOf t)):=fun i x hx=>by
  obtain⟨n,t,e,hn,ht,k0,hc⟩:=R.Kr md.au md.au.length (bj _) i x hx;exact⟨n,t,e,hn,ht,by rw[<-hc];exact Nu ht k0⟩
 clear KU EN;go_wp2;go_loopw[13] (fun i wr=>∃k:Nat,k<=is.length/\i=.int .i64 k/\w7.grownBy wr none) (fun i _=>is.length-(intOf i).toNat)
 case atStart=>exact⟨0,bK _,rfl,gL _ _⟩
 case round=>
  obtain⟨k,hk,rfl,aF⟩:=hrel;by_cases aK:k<is.length
  ·obtain⟨x,hx⟩:∃x,(R.jQ (R.dp md).ts)[k]?=some x:=⟨_,aT (by rw[Gl];exact aK)⟩
   obtain⟨ad,rfl,dx⟩:=(HX7.out.Z aF).get k x hx;obtain⟨nt,t,rfl,Cy,ht,hlx⟩:=HIx.out k x hx;obtain⟨ga,_,_,rfl,-,-,-,-,e1,e2,e3,-,-⟩:=(O9.out.Z aF).get nt t ht;have e0:wr.cell? ⟨gb,0,none⟩=some (.slice (some ⟨ga,0,none⟩) (R.dp md).ts.length c1):=(Pa.out.kept aF (by simp)).cell 0;have gN:(R.dp md).ts.length=md.au.length:=rfl;rw[gN] at e0;have Cj:md.au.length<=255:=HF.out.nt;have HPk:=ae (HP.out.gZ (zt (aC lk.out aF) hC));have wt:=R.ae4 (HF.out.ts t (bV ht));obtain⟨q0,q1,q2,q3⟩:=wT wt.h0 wt.h1 wt.w0 wt.w1 wt.c0 wt.c1;have m1':IntKind.i64.wrap (t.h*t.w)=t.h*t.w:=by rw[cS];omega
   have Zi:IntKind.i64.wrap (t.h*t.w*t.c)=t.h*t.w*t.c:=by rw[cS];omega
   have UL:(gk md.au)[k]?=some (t.h*t.w*t.c):=hlx;obtain⟨bf,UM,UC,-⟩:=ND.out k _ UL;have Ul:=ae (fun(W:World) (h:Pl W p md)=>Y1 p k (t.h*t.w*t.c) md W h UL);obtain⟨r0,r1⟩:=ab6 (Pb.out.Z aF).b UM;rw[UC] at r1;have PI:=M.bP UM;obtain⟨ad2,UN,dk⟩:=(Cz (c:=is.length) (Pb.out.Z aF).i rfl).get k (k:Int) (by rw[<-His.out];unfold se;rw[dY,List.getElem?_range (by rw[<-mn.out];exact aK)];rfl);injection UN with UN;subst UN;rw[wQ] at dk;have t0:wr.cell? ⟨w1.heap.size,0,none⟩=some (.slice (some ⟨g0,0,none⟩) bs.length bs.length):=(KV.out.kept aF (by simp)).cell 0;have t2:wr.cell? ⟨w1.heap.size,2,none⟩=some (.slice (some ⟨g2,0,none⟩) is.length is.length):=(KV.out.kept aF (by simp)).cell 2;have vv:(t.h*t.w*t.c != t.h*t.w*t.c)=false:=by simp
   have bH:=ae aF;clear hx ht hlx UL UM UC aF wt q0 q1 q2 q3 r0;go_wp2;go_quiet (fail);have gq:=bF wr nq none;have iy:=ae (aC bH.out gq);have HPq:=ae (HPk.out.gZ (zt gq (by have:=(aC lk.out bH.out).size;omega)));have y1:=aG gq e1;have y2:=aG gq e2;have y3:=aG gq e3;have z0:=aG gq t0;have z2:=aG gq t2;have zk:=aG gq dk;have zr:=aG gq r1;clear gq e0 e1 e2 e3 t0 t2 dk r1 dx bH HPk;generalize wr.drewN nq=wq at *;go_wp2_with fail;refine(Ul.out wq HPq.out.pl).mono ?_;rintro e wz⟨rfl,rfl⟩;go_wp2;go_quiet (fail);have HGz:=ae (aC iy.out (bF wz nq none));go_wp2;go_roundw
   case rel=>exact⟨k+1,by omega,by go_num,HGz.out⟩
   case measure=>simp[intOf];omega
  ·obtain rfl:k=is.length:=by omega
   have fJ:=ae (aC lk.out aF);have Gu:=ae (KV.out.kept aF (by simp));have iQ:=ae (Pb.out.Z aF);have IT:=ae (HL7.out.kept aF (by simp));have HP8:=ae (HP.out.gZ (zt fJ.out hC));have hz8:w1.heap.size<wr.heap.size:=by have:=Gu.out.lt;exact this
   have UO:=ae (aq3 p md wr HP8.out.pl);rw[<-mn.out] at UO;have t0:wr.cell? ⟨w1.heap.size,0,none⟩=some (.slice (some ⟨g0,0,none⟩) bs.length bs.length):=Gu.out.cell 0;have t1:wr.cell? ⟨w1.heap.size,1,none⟩=some (.slice (some ⟨G,0,none⟩) ss.length ss.length):=Gu.out.cell 1;have t3:wr.cell? ⟨w1.heap.size,3,none⟩=some (.slice (some ⟨g3,0,none⟩) us.length us.length):=Gu.out.cell 3;have T1:=ae t1;have T3:=ae t3;clear aF lk KV Pb HX7 HL7 HIx O9 Pa;go_wp2_with fail;refine UO.out.mono ?_;rintro e wa⟨rfl,EG⟩;subst EG;clear UO;go_wp2_with fail;refine(aq4 p _).mono ?_;rintro e wb⟨rfl,A7⟩;subst A7;go_wp2_with fail;refine(aos w6.heap.size g0 bs.length bs.length bs.length (T.ux bs.length ss is us) bs ss.length wb IT.out iQ.out.b rfl Hf2.out (by omega)).mono ?_;rintro e wc⟨rfl,Gv⟩;have HGc:=ae (aC fJ.out Gv);have B7c:=ae (Gu.out.kept Gv (by simp));have UP:=ae (iQ.out.Z Gv);have rO:=aG Gv T1.out;have Rr:=aG Gv T3.out;clear Gv t0 t1 t3 T1 T3 fJ Gu iQ IT HP8;have HCf:Hid (Calls prog 79 #[.slice (some ⟨G,0,none⟩) ss.length ss.length,.slice (some ⟨g3,0,none⟩) us.length us.length] wc fun e w'=>e=.returned (.bool true)/\wc.grownBy w' none):=by
    obtain⟨q1,⟨Bq,q2⟩,q3,q4,-⟩:=UP.out;exact aoy G g3 us.length ss us wc q2.JJ (Cz q4 rfl) (by omega) (by omega) Gs.out Hf3.out
   go_wp2_with fail;refine HCf.out.mono ?_;rintro e wd⟨rfl,eH⟩;have j6:=ae (aC HGc.out eH);have Pc:=ae (B7c.out.kept eH (by simp));have sV:=ae (UP.out.Z eH);clear eH rO Rr HGc B7c UP HCf;have KL:Hid (Calls prog 80 #[.agg (nM g0 G g2 g3 bs ss is us)] wd fun e w'=>(∃ab fH ai ao cb cs ci co,e=.returned (.agg #[.slice ab bs.length cb,.slice fH ss.length cs,.slice ai is.length ci,.slice ao us.length co,.int .i64 0])/\tj w' wd.heap.size ab fH ai ao cb cs ci co bs ss is us)/\wd.grownBy w' none):=by
    obtain⟨q1,⟨Bq,q2⟩,q3,q4,-⟩:=sV.out;exact aoQ g0 G g2 g3 0 bs ss is us wd q1 q2.JJ q3 q4 (by omega) (by omega) (by omega) (by omega) Gs.out
   go_wp2_with (refine dj rfl 132 _ rfl w1.heap.size rfl 132 (nM g0 G g2 g3 bs ss is us) (0,0) _ Pc.out underlying132 rfl Tryz.uy ?_);refine KL.out.mono ?_;rintro e we⟨⟨ab,fH,wM,ao,cb,cs,wO,co,rfl,afq⟩,AL⟩;have hsd:w1.heap.size<wd.heap.size:=by have:=Pc.out.lt;exact this
   have hse:=AL.size;have B7e:=Pc.out.kept AL (by simp);have gA:=aQ we (.cells #[.slice ab bs.length cb,.slice fH ss.length cs,.slice wM is.length wO,.slice ao us.length co,.int .i64 0] 132) none;have afs:Hid (∀W:World,nL wd.heap.size we.heap.size we W->tj W wd.heap.size ab fH wM ao cb cs wO co bs ss is us):=fun W hs=>afq.aor hs;have rM:=ae (aC (aC j6.out AL) gA);have UQ:=ae (aj.bB we 132 #[.slice ab bs.length cb,.slice fH ss.length cs,.slice wM is.length wO,.slice ao us.length co,.int .i64 0]);have UR:=ae (B7e.kept gA (by simp));have US:=ae ((sV.out.Z AL).Z gA);have UT:(we.alloc (.cells #[.slice ab bs.length cb,.slice fH ss.length cs,.slice wM is.length wO,.slice ao us.length co,.int .i64 0] 132)).heap.size=we.heap.size+1:=by simp
   have UU:=ae (zt (B:=wd.heap.size) (C:=we.heap.size) gA (bj _));obtain⟨W0,qj⟩:∃W,Hid (we.alloc (.cells #[.slice ab bs.length cb,.slice fH ss.length cs,.slice wM is.length wO,.slice ao us.length co,.int .i64 0] 132)=W):=⟨_,rfl⟩;rw[qj.out] at rM UQ UR US UT UU;have HL0:=ae (HL.out.kept rM.out (by simp));have HT0:=ae (HT.out.Z rM.out);clear afq AL gA B7e j6 Pc sV KL HL;go_wp2;rw[qj.out];go_loopw[21] (fun i wr=>∃(q:Nat) (v:Value) (gJ:List Td) (lo h0 H1:Nat) (hs:List Nat) (h2 h3:Nat),q<=3/\i=.int .i64 q/\Hid (aj wr w1.heap.size 132 (nM h0 H1 h2 h3 bs ss is us))/\Hid (aj wr we.heap.size 132 #[.slice ab bs.length cb,.slice fH ss.length cs,.slice wM is.length wO,.slice ao us.length co,.int .i64 0]) /\
     Hid (A6 wr lo h0 H1 hs h2 h3 bs ss is us)/\Hid (w.heap.size<=lo/\(h3<w1.heap.size\/we.heap.size<lo))/\Hid (LW wr b vp vl vw va vn ve vr v (.int .i64 (mark+q*(4+ss.length))) vo)/\Hid (Ts wr base v (tl++gJ))/\Hid (gJ.length=q) /\
     Hid (∀t∈tl++gJ,∀g∈t.iE,g≠b/\v.ownBlock≠some g/\g<lo)/\Hid (∀t∈gJ,∀g∈t.iE,w.heap.size<=g/\g≠w1.heap.size)/\Hid (∀g,v.ownBlock=some g->(vt.ownBlock=some g\/we.heap.size<g)/\g<lo)/\Hid (q=0\/∃gt ct,v=.slice (some ⟨gt,0,none⟩) (tl.length+q) ct) /\
     Hid (nL wd.heap.size we.heap.size we wr)/\Hid (Fr (fun k=>k=b\/vt.ownBlock=some k) w wr)) (fun i _=>3-(intOf i).toNat)
   case atStart=>exact⟨0,vt,[],w.heap.size,g0,G,gs,g2,g3,by decide,rfl,UR.out,UQ.out,US.out,⟨bj _,.inl atG.out.2⟩,by unfold Hid;simpa using HL0.out,by rw[List.append_nil];exact HT0.out,rfl,(fun t ht g hg=>by
     rw[List.append_nil] at ht;have h1:=EM.out t ht g hg;exact⟨h1.1,h1.2,(HT.out.2 t ht).lt g hg⟩),(fun t ht=>aN ht (by simp)),(fun g hg=>⟨.inl hg,(jd HT.out.1 g hg).2⟩),.inl rfl,UU.out,(Fr.uw rM.out).mono (fun k _ h=>by cases h)⟩
   case round=>
    clear UR UQ US HL0 HT0 UU rM;obtain⟨q,v,gJ,lo,h0,H1,hs,h2,h3,hq,rfl,H7,Gw,HI,Fw,Eu,Et,tC,KW,Pd,Dg,Hvs,eX,qZ⟩:=hrel;by_cases aK:q<3
    ·have HW:=afs.out wr eX.out
     have q9:w.heap.size<=wr.heap.size:=qZ.out.size;have KX:Hid (Calls prog 81 #[.agg (nM h0 H1 h2 h3 bs ss is us),.agg #[.slice ab bs.length cb,.slice fH ss.length cs,.slice wM is.length wO,.slice ao us.length co,.int .i64 0]] wr fun e w'=>e=.returned (.bool true)/\wr.grownBy w' none):=by
      obtain⟨r1,⟨Bq,r2⟩,r3,r4,-⟩:=HI.out;exact abR h0 H1 h2 h3 ab fH wM ao cb cs wO co 0 0 bs ss is us wr (abD r1) HW.bsl r2.JJ HW.stq (Cz r3 rfl) HW.i.sl (Cz r4 rfl) HW.o.sl (by omega) (by omega) (by omega) (by omega) Gs.out
     clear HW;go_wp2_with (first|(refine dj rfl 132 _ rfl w1.heap.size rfl 132 (nM h0 H1 h2 h3 bs ss is us) (0,0) _ H7.out underlying132 rfl Tryz.uy ?_)|(refine dj rfl 132 _ rfl we.heap.size rfl 132 #[.slice ab bs.length cb,.slice fH ss.length cs,.slice wM is.length wO,.slice ao us.length co,.int .i64 0] (0,0) _ Gw.out underlying132 rfl Tryz.uy ?_));refine KX.out.mono ?_;rintro e x1⟨rfl,df⟩;have L1:=Eu.out.kept df (by simp);have T1:=Et.out.Z df;have Eh:=ae (qZ.out.iI df (fun g h=>by cases h));have H71:=ae (H7.out.kept df (by simp));have UW:=ae (Gw.out.kept df (by simp));have kP:=ae (HI.out.Z df);have afx:=ae (eX.out.trans (zt (B:=wd.heap.size) (C:=we.heap.size) df (by have:=Gw.out.lt;omega)));obtain⟨av,cv,hva⟩:=gY T1.1;have c7:x1.cell? ⟨b,7,none⟩=some v:=L1.cell 7;rw[hva] at c7;have HCt:=ae (abB b base av (tl++gJ).length cv (tl++gJ) x1 c7 (by rw[<-hva];exact T1) (by rw[nC,tC.out];omega));have yE:=ae L1;have vK:=ae T1;have hzx:=df.size;clear df L1 T1 c7 Eu Et qZ H7 Gw HI eX KX;go_wp2_with fail;refine HCt.out.mono ?_;rintro e x2⟨rfl,dL⟩;have qP:=ae (yE.out.kept dL (by simp));have rV:=ae (vK.out.Z dL);have sS:=ae (Eh.out.iI dL (fun g h=>by cases h));have Pe:=ae (H71.out.kept dL (by simp));have UX:=ae (UW.out.kept dL (by simp));have jE:=ae (kP.out.Z dL);have lS:=ae (afx.out.trans (zt (B:=wd.heap.size) (C:=we.heap.size) dL (by have:=UW.out.lt;omega)));have yJ:b<lo:=by have:=Fw.out.1;omega
     have cZ:=dL.size;have hqm:0<=(q:Int)*(4+(ss.length:Int))/\(q:Int)*(4+(ss.length:Int))<=60:=by
      rcases(show q=0\/q=1\/q=2 by omega) with rfl|rfl|rfl<;>omega
     have afA:=ae (ato b base vp vl vw va vn ve vr v vo (mark+q*(4+ss.length)) (tl++gJ) lo h0 H1 hs h2 h3 bs ss is us x2 qP.out rV.out KW.out jE.out yJ (fun g hg=>⟨(Dg.out g hg).2,by
      rcases(Dg.out g hg).1 with h|h
      ·exact(Hv.out g h).1
      ·omega⟩) (by omega) (by omega) (by omega) (by rw[nC,tC.out];omega) (by omega) (by omega) (by omega) (by omega) Gs.out)
     clear dL yE vK Eh H71 UW kP afx HCt;go_wp2_with (refine dj rfl 132 _ rfl w1.heap.size rfl 132 (nM h0 H1 h2 h3 bs ss is us) (0,0) _ Pe.out underlying132 rfl Tryz.uy ?_);refine afA.out.mono ?_;rintro e x3⟨rfl,gt,ct,td,yh,GR,Rp,afB,afC,zF⟩;have ze:=jE.out;have ax8:w1.heap.size<x2.heap.size:=Pe.out.lt;have ax9:we.heap.size<x2.heap.size:=UX.out.lt;have atN:lo<=h0/\h0<H1/\H1<h2/\h2<h3:=⟨ze.l0,ze.l1,ze.l3,ze.l4⟩;have afD:∀g,v.ownBlock=some g->g<w.heap.size\/we.heap.size<g:=fun g hg=>by
      rcases(Dg.out g hg).1 with h|h
      ·exact .inl (jd HT.out.1 g h).2
      ·exact .inr h
     have lX:=Fw.out;have S7:∀k,w.heap.size<=k->k<=we.heap.size->(w1.heap.size<=k)->¬(k=b\/v.ownBlock=some k\/(h0<=k/\k<=h3)):=by
      intro k k0 k1 k2 h;rcases h with h|h|h
      ·omega
      ·have:=afD k h;omega
      ·rcases lX.2 with c|c<;>omega
     have UY:=zF.gF Pe.out (S7 _ (by omega) (by omega) (bj _));have afE:=ae (zF.gF UX.out (S7 _ (by omega) (bj _) (by omega)));have Pf:=ae (lS.out.trans (zF.gZ (B:=wd.heap.size) (C:=we.heap.size) (by omega) (fun k hk hh=>S7 k (by omega) (by omega) (by omega) hk)));have xM:=ae (show Fr (fun k=>k=b\/vt.ownBlock=some k) w x3 from ⟨zF.os.trans sS.out.os,zF.tape.trans sS.out.tape,zF.output.trans sS.out.output,jK sS.out.size zF.size,fun k hk hn=>(zF.block k (qB hk sS.out.size) (fun h=>by
      rcases h with h|h|h
      ·exact hn (.inl h)
      ·rcases(Dg.out k h).1 with h' | h'
       ·exact hn (.inr h')
       ·omega
      ·omega)).trans (sS.out.block k hk hn)⟩)
     have uB:=ae (HP.out.gZ (xM.out.gZ hC (fun k hk=>by
      rcases hk with rfl|hk
      ·exact Hb.out
      ·exact(Hv.out k hk).2)))
     have hz3:=zF.size;have qg:=ae yh;have qU:=ae GR;have UZ:=ae afC;have afF:=ae Rp;have U0:=ae afB;have afG:=ae atN;have Hz3:=ae hz3;clear yh GR Rp afB afC zF ze S7 afD lX afA qP rV sS Pe UX jE lS;go_wp2_with fail;refine(Gq.out x3 uB.out.pl).mono ?_;rintro e x4⟨⟨k0,K1,ks,k2,k3,rfl,lO⟩,gU⟩;have mq:=afG.out;have vG:=lO.lt;have hz4:=gU.size;have U1:=UY.kept gU (by simp);have cC:=vb x4 w1.heap.size (nM k0 K1 k2 k3 bs ss is us);have H75:=ae (setRow_heap x4 w1.heap.size _ (nM k0 K1 k2 k3 bs ss is us) 132 _ U1);have atP:=ae ((afE.out.kept gU (by simp)).kept cC (by intro e;injection e with e;omega));have ayc:w1.heap.size<x3.heap.size:=UY.lt;have rL:Hid (A6 (x4.setRow w1.heap.size (nM k0 K1 k2 k3 bs ss is us)) x3.heap.size k0 K1 ks k2 k3 bs ss is us):=by
      obtain⟨r1,⟨Bq,r2⟩,r3,r4,r5,r6,r7,r8,r9⟩:=lO;exact⟨r1.kept cC (by intro e;injection e with e;omega),⟨Bq,r2.S6 cC (by omega)⟩,r3.kept cC (by intro e;injection e with e;omega),r4.kept cC (by intro e;injection e with e;omega),r5,r6,r7,r8,r9⟩
     have hqq:(mark+(q:Int)*(4+(ss.length:Int))+4+(ss.length:Int))=mark+((q+1:Nat):Int)*(4+(ss.length:Int)):=by
      rw[show((q+1:Nat):Int)=(q:Int)+1 by omega,Int.add_mul,Int.one_mul];omega
     have CK:=ae ((qg.out.kept gU (by simp)).kept cC (by intro e;injection e with e;omega));rw[hqq] at CK;have IS:Hid (Ts (x4.setRow w1.heap.size (nM k0 K1 k2 k3 bs ss is us)) base (.slice (some ⟨gt,0,none⟩) ((tl++gJ).length+1) ct) (tl++(gJ++[td]))):=by
      have e1:=qU.out.Z gU;rw[j4] at e1;have cB:∀g,(Value.slice (some ⟨gt,0,none⟩) ((tl++gJ).length+1) ct).ownBlock=some g->g=gt:=fun g hg=>by injection hg with hg;exact hg.symm
      refine⟨iJ e1.1 cC (fun g hg e=>by
       have e2:=cB g hg;injection e with e;rcases UZ.out with h|h
       ·rw[<-e2,e] at h
        rcases(Dg.out _ h).1 with h' | h'
        ·have:=(jd HT.out.1 _ h').2;omega
        ·omega
       ·omega),fun t ht=>(e1.2 t ht).kept (Fr.uw cC) (fun g hg e=>?_)⟩
      injection e with e;rcases List.mem_append.1 ht with ig|ig
      ·have:=(KW.out t (List.mem_append_left _ ig) g hg).2.2
       have:=(HT.out.2 t ig).lt g hg;omega
      ·rcases List.mem_append.1 ig with DN|DN
       ·have:=(KW.out t (List.mem_append_right _ DN) g hg).2.2
        have h5:=Pd.out t DN g hg;omega
       ·simp at DN;subst DN
        have:=U0.out g hg;rcases Fw.out.2 with c|c<;>omega
     have atQ:Hid (∀t∈tl++(gJ++[td]),∀g∈t.iE,g≠b/\(Value.slice (some ⟨gt,0,none⟩) ((tl++gJ).length+1) ct).ownBlock≠some g/\g<x3.heap.size):=fun t ht g hg=>by
      rw[<-j4] at ht;obtain⟨n1,n2⟩:=afF.out t ht g hg;exact⟨n1,fun e=>n2 (by injection e with e;exact e.symm),(qU.out.2 t ht).lt g hg⟩
     have atS:Hid (∀t∈gJ++[td],∀g∈t.iE,w.heap.size<=g/\g≠w1.heap.size):=fun t ht g hg=>by
      rcases List.mem_append.1 ht with ht|ht
      ·exact Pd.out t ht g hg
      ·simp at ht;subst ht
       have h5:=U0.out g hg;have h6:=Fw.out;refine⟨by omega,?_⟩;rcases h6.2 with c|c<;>omega
     have atT:Hid (∀g,(Value.slice (some ⟨gt,0,none⟩) ((tl++gJ).length+1) ct).ownBlock=some g->(vt.ownBlock=some g\/we.heap.size<g)/\g<x3.heap.size):=fun g hg=>by
      have e:gt=g:=by injection hg
      subst e;refine⟨?_,(jd qU.out.1 gt rfl).2⟩;rcases UZ.out with h|h
      ·exact(Dg.out gt h).1
      ·exact .inr (by omega)
     have atU:Hid (q+1=0\/∃Yd ct',Value.slice (some ⟨gt,0,none⟩) ((tl++gJ).length+1) ct=.slice (some ⟨Yd,0,none⟩) (tl.length+(q+1)) ct'):=.inr ⟨gt,ct,by rw[nC,tC.out,Nat.add_assoc]⟩;have atW:=ae (Pf.out.trans ((zt (B:=wd.heap.size) (C:=we.heap.size) gU (by omega)).trans ((Fr.uw cC).gZ (by omega) (fun k hk=>by injection hk with hk;omega))));have Og:=ae ((xM.out.iI gU (fun g h=>by cases h)).iI cC (fun g hg=>.inl (by injection hg with hg;omega)));have atX:=ae U1;have atY:Hid ((gJ++[td]).length=q+1):=by unfold Hid;simp[tC.out]
     have atZ:Hid (w.heap.size<=x3.heap.size/\(k3<w1.heap.size\/we.heap.size<x3.heap.size)):=⟨by omega,.inr (by omega)⟩;clear U1 cC gU lO hqq qg qU afF U0 UZ Pf xM uB afE KW Pd Dg Hvs afG hqm UY;go_wp2_with (refine aaY rfl 132 _ _ rfl w1.heap.size (nM k0 K1 k2 k3 bs ss is us) rfl rfl 132 (nM h0 H1 h2 h3 bs ss is us) atX.out Tryz.uy rfl (by simp[Value.oneCell']) ?_);go_roundw
     case rel=>exact⟨q+1,.slice (some ⟨gt,0,none⟩) ((tl++gJ).length+1) ct,gJ++[td],x3.heap.size,k0,K1,ks,k2,k3,by omega,by go_num,H75.out,atP.out,rL.out,atZ.out,CK.out,IS.out,atY.out,atQ.out,atS.out,atT.out,atU.out,atW.out,Og.out⟩
     case measure=>simp[intOf];omega
    ·obtain rfl:q=3:=by omega
     have HW:=afs.out wr eX.out;have KX:Hid (Calls prog 81 #[.agg (nM h0 H1 h2 h3 bs ss is us),.agg #[.slice ab bs.length cb,.slice fH ss.length cs,.slice wM is.length wO,.slice ao us.length co,.int .i64 0]] wr fun e w'=>e=.returned (.bool true)/\wr.grownBy w' none):=by
      obtain⟨r1,⟨Bq,r2⟩,r3,r4,-⟩:=HI.out;exact abR h0 H1 h2 h3 ab fH wM ao cb cs wO co 0 0 bs ss is us wr (abD r1) HW.bsl r2.JJ HW.stq (Cz r3 rfl) HW.i.sl (Cz r4 rfl) HW.o.sl (by omega) (by omega) (by omega) (by omega) Gs.out
     clear HW;go_wp2_with (first|(refine dj rfl 132 _ rfl w1.heap.size rfl 132 (nM h0 H1 h2 h3 bs ss is us) (0,0) _ H7.out underlying132 rfl Tryz.uy ?_)|(refine dj rfl 132 _ rfl we.heap.size rfl 132 #[.slice ab bs.length cb,.slice fH ss.length cs,.slice wM is.length wO,.slice ao us.length co,.int .i64 0] (0,0) _ Gw.out underlying132 rfl Tryz.uy ?_));refine KX.out.mono ?_;rintro e x1⟨rfl,df⟩;have yE:=ae (Eu.out.kept df (by simp));have vK:=ae (Et.out.Z df);have Eh:=ae (qZ.out.iI df (fun g h=>by cases h));clear df Eu Et qZ H7 Gw HI eX KX;go_wp2;go_ret;obtain⟨gt,ct,hv⟩:=Hvs.out.resolve_left (by decide);have e1:=yE.out;have e2:=vK.out;rw[hv] at e1 e2;refine⟨rfl,gt,ct,gJ,e1,tC.out,e2,fun t ht g hg=>(Pd.out t ht g hg).1,fun t ht g hg=>?_,?_,Eh.out⟩
     ·obtain⟨n1,n2,-⟩:=KW.out t ht g hg
      rw[hv] at n2;exact⟨n1,fun e=>n2 (by subst e;rfl)⟩
     ·have:=Dg.out gt (by rw[hv];rfl)
      rcases this.1 with h|h
      ·exact .inl h
      ·exact .inr (by omega)
end Go.Proofs.YtcnhfffgbamonabGreat
