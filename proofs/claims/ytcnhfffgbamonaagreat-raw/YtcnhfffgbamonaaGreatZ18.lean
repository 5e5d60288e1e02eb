import Derived.Test.YtcnhfffgbamonaaGreatZ17
set_option maxRecDepth 100000
set_option maxHeartbeats 6400000
namespace Go.Proofs.YtcnhfffgbamonaaGreat
open Go.Proofs.Tryz
open Go.RowKit
theorem anm(m:Nat)(md:M.Md)(C:List (List Int))(w:World)(h:cN w m md)(S:H.dH md C) :
  Calls prog 63 #[.pointer (some ⟨m,0,none⟩)] w fun e w'=>e=.returned (.tuple #[])/\cN w' m (H.jE md)/\Below m w w':=by
 have S1:=S.iR;have S2:=S1.drop;have S3:=S2.oY;have HS:=ae S;have HM:=ae h;have b1:=ae (show(H.iR md).ag.length<=255/\(H.iR md).aK.length<=255 from ⟨by have:=S1.no;omega,S1.nu⟩);have b2:=ae (show(H.drop (H.iR md)).ag.length<=255/\(H.drop (H.iR md)).aK.length<=255 from ⟨by have:=S2.no;omega,S2.nu⟩);have b3:=ae (show(H.oY (H.drop (H.iR md))).au.length<=255/\(H.oY (H.drop (H.iR md))).ag.length<=255/\(H.oY (H.drop (H.iR md))).aK.length<=255 from ⟨by have:=S3.nt;omega,by have:=S3.no;omega,S3.nu⟩);have HE:Hid (H.jE md=H.mP (H.oY (H.drop (H.iR md)))):=rfl;clear S S1 S2 S3 h;go_enter func63,ntmps63;go_wp2_with fail;refine(amj m md C w HM.out HS.out).mono ?_;rintro e w1⟨rfl,mK,km⟩;have nN:=ae mK;have nF:=ae km;clear mK km;go_wp2_with fail;refine(amJ m _ w1 nN.out b1.out.1 b1.out.2).mono ?_;rintro e w2⟨rfl,FQ,ff⟩;have NM:=ae FQ;have iD:=ae (uD nF.out ff);clear FQ ff;go_wp2_with fail;refine(am2 m _ w2 NM.out b2.out.1 b2.out.2).mono ?_;rintro e w3⟨rfl,vD,iA⟩;have NO:=ae vD;have fU:=ae (uD iD.out iA);clear vD iA;go_wp2_with fail;refine(amM m _ w3 NO.out b3.out.1 b3.out.2.1 b3.out.2.2).mono ?_;rintro e w4⟨rfl,Iz,kC⟩;have Cx:=ae Iz;have iS:=ae (uD fU.out kC);clear Iz kC;go_wp2;go_end0;exact⟨rfl,by rw[HE.out];exact Cx.out,iS.out⟩
theorem ZC{md:M.Md}{C:List (List Int)}(S:H.dH md C){n:Nat}{t:M.Tn}(h:md.au[n]?=some t):dZ t:=by
 have hl:=M.bP h;have e:=L7 h;have d:=S.kQ n (by omega) (by omega);have k:=S.Cg n (by omega) (by omega);rw[e] at d k;exact⟨k.1,k.2,by have:=d.h0;omega,d.h1,by have:=d.w0;omega,d.w1,by have:=d.c0;omega,d.c1,d.z0,d.z1⟩
theorem pP.cO{w:World}{B d g1 cn Sj:Nat}{al:Option Addr}{I:Int}{x:H.Dr}{cl:Nat}(kU:aj w d 102 #[.int .i64 I,.slice (some ⟨g1,0,none⟩) x.aW.length cn,.slice al Sj cl])(hn:Sj=x.lv.length)(hN:aZ w B (.slice (some ⟨g1,0,none⟩) x.aW.length cn) x.aW)(hL:pK w B (.slice al Sj cl) x.lv)
  (q:Nat) (v:Int) (h0:0<x.aW.length):pP (w.setCell ⟨g1,q,none⟩ (.int .i64 v)) B d I ⟨x.aW.set q v,x.lv⟩/\B<=g1:=by
 subst hn;obtain⟨rJ,Zf,e1,-,Zg,km,-⟩:=xH hN h0;simp only[kj,oP,and_true] at e1;subst e1;have ey:=ND km kU (by decide);have iB:=bD w g1 q (.int .i64 v);refine⟨⟨some ⟨g1,0,none⟩,cn,al,cl,?_,?_,pL hL km (by decide) iB⟩,Zg⟩
 ·rw[kK];exact kU.kept iB (by intro e;injection e with e;exact ey e.symm)
 ·have e:=Eg hN q (.int .i64 v)
  unfold aZ;rw[List.map_set,kK];exact e
theorem ann{ts:List M.Tn}{k:Nat}{t:M.Tn}(h:ts[k]?=some t)(h0:t.af=0):H.fN ts (k+1)=H.iZ ⟨(H.fN ts k).aW.set k (-1),(H.fN ts k).lv⟩ k (M.cellsOf t) 0:=by
 rw[H.fN,h];simp only;rw[ay h0]
theorem ano{ts:List M.Tn}{k:Nat}{t:M.Tn}(h:ts[k]?=some t)(h0:t.af≠0):H.fN ts (k+1)=⟨(H.fN ts k).aW.set k (-1),(H.fN ts k).lv⟩:=by
 rw[H.fN,h];simp only;rw[ak h0]
theorem anp{m:M.Md}{d:H.Dr}{k:Nat}{o:M.Op}(h:m.ag[k]?=some o):H.kG m d (k+1)=H.iZ ((H.cM o).foldl (H.ig ((k:Int)+1)) (H.kG m d k)) o.to (M.cellsOf (M.aq m o.to)) ((k:Int)+1):=by
 rw[H.kG,h]
theorem ZD{l:List Int}{j:Nat}{n time:Int}{d:H.Dr}(h:l[j]?=some n):(l.take (j+1)).foldl (H.ig time) d=H.ig time ((l.take j).foldl (H.ig time) d) n:=by
 rw[H.kd h,List.foldl_append];rfl
theorem anq(n:Nat):(madeCells #[Value.int .i64 0] n).toList=(List.replicate n (0:Int)).map (Value.int .i64):=by
 apply nM
 intro i;by_cases h:i<n
 ·rw[dV,ui,ay h];simp[madeCells,h,Nat.mod_one]
 ·rw[db,db]
  ·simp;omega
  ·simp[madeCells];omega
theorem anr(m:Nat)(md:M.Md)(C:List (List Int))(w:World)(h:cN w m md)(S:H.dH md C) :
  Calls prog 64 #[.pointer (some ⟨m,0,none⟩)] w fun e w'=>(∃d,e=.returned (.pointer (some ⟨d,0,none⟩))/\w.heap.size<=d/\pP w' w.heap.size d (H.fO md) (H.nL md))/\w.grownBy w' none:=by
 obtain⟨j0,hj,vZ,qq,wg⟩:=info_parts Tryz.oO;have iq:=S.nt;have kl:=S.no;have BN:=S.nu;have HS:=ae S;have HM:=ae h;have vX:=ae (fun k hk=>H.xF md.au k hk);have tE:=ae (fun k hk=>H.Cl S (H.xF md.au md.au.length (bj _)).ag k hk);obtain⟨a1,c1,a2,c2,a3,c3,hB,hT,hO,hU⟩:=h;have q0:w.cell? ⟨m,0,none⟩=some (.slice a1 md.au.length c1):=hB.cell 0;have q1:w.cell? ⟨m,1,none⟩=some (.slice a2 md.ag.length c2):=hB.cell 1;have q2:w.cell? ⟨m,2,none⟩=some (.slice a3 md.aK.length c3):=hB.cell 2;have Q0:=ae q0;have Q1:=ae q1;have Q2:=ae q2;have qk:=hB.lt;have HT:=ae hT;have HO:=ae hO;have HU:=ae hU;clear hB hT hO hU S q1 q2;go_enter func64,ntmps64;go_wp2_with (at_make;refine qg _ rfl _ _ 33 rfl w.heap.size 3 j0 (.int .i64 0) 1 underlying33 hj vZ qq _ _ _ _ md.au.length rfl rfl rfl rfl ?c1 ?c2 ?c3 ?_)
 case c1=>rw[wg];omega
 case c2=>unfold maxLen;omega
 case c3=>exact bj _
 intro w2 cB aM;have dC:aZ w2 w.heap.size (.slice (some ⟨w.heap.size,0,none⟩) md.au.length md.au.length) (List.replicate md.au.length 0):=by
  unfold aZ;rw[<-anq,vT];exact cB
 have Ef:w.heap.size<=w2.heap.size:=aM.size;have CC:=aQ w2 (.cells #[.int .i64 0,.slice (some ⟨w.heap.size,0,none⟩) md.au.length md.au.length,.slice none 0 0] 102) none;have ZE:Hid (pP (w2.alloc (.cells #[.int .i64 0,.slice (some ⟨w.heap.size,0,none⟩) md.au.length md.au.length,.slice none 0 0] 102)) w.heap.size w2.heap.size 0 (H.fN md.au 0)):=
  ⟨some ⟨w.heap.size,0,none⟩,md.au.length,none,0,by
   have e:=aj.bA w2 102 #[.int .i64 0,.slice (some ⟨w.heap.size,0,none⟩) md.au.length md.au.length,.slice none 0 0];show aj _ _ _ #[.int .i64 0,.slice _ (List.replicate md.au.length (0:Int)).length _,.slice none 0 0];rw[vT];exact e,by
   show aZ _ _ (.slice _ (List.replicate md.au.length (0:Int)).length _) (List.replicate md.au.length 0);rw[vT];exact dC.Z CC,ki _ _ _ _⟩
 have rV:=ae (aC aM CC);have AR:(w2.alloc (.cells #[.int .i64 0,.slice (some ⟨w.heap.size,0,none⟩) md.au.length md.au.length,.slice none 0 0] 102)).cell? ⟨m,0,none⟩=some (.slice a1 md.au.length c1):=aG rV.out q0;have ans:w2.cell? ⟨m,0,none⟩=some (.slice a1 md.au.length c1):=aG aM q0;have JH:m<w2.heap.size:=by omega
 clear cB dC CC aM q0;go_wp2;clear AR ans;go_loopw[26] (fun i wr=>∃k:Nat,k<=md.au.length/\i=.int .i64 k/\pP wr w.heap.size w2.heap.size 0 (H.fN md.au k)/\w.grownBy wr none) (fun i _=>md.au.length-(intOf i).toNat)
 case atStart=>exact⟨0,bK _,rfl,ZE.out,rV.out⟩
 case round=>
  obtain⟨k,hk,rfl,xK,aF⟩:=hrel;have bH:=ae aF;have D:=vX.out k hk;have xL:H.cy md.au k<=k:=by unfold H.cy;exact jN (List.length_filter_le _ _) (by simp;omega)
  have tC:(H.fN md.au k).aW.length<=24:=by rw[D.ln];exact iq
  have AS:(H.fN md.au k).lv.length<=24:=by rw[D.ll];omega
  have NP:=ae D.ln;clear D;by_cases aJ:k<md.au.length
  ·obtain⟨t,ht⟩:∃t,md.au[k]?=some t:=⟨_,aS aJ⟩
   obtain⟨g,ao,m',cp,rfl,-,-,-,d0,d1,d2,d3,d4,d5⟩:=(HT.out.Z aF).get k t ht;have gQ:g<wr.heap.size:=ql wr _ d0;have wt:=HS.out |> fun S=>ZC S ht;have wi:=ae wt;have ZF:=ae (fun h0=>ann ht h0);have JK:=ae (fun h0=>ano ht h0);obtain⟨x,Hx⟩:∃x,Hid (H.fN md.au k=x):=⟨_,rfl⟩;rw[Hx.out] at xK ZF JK tC AS NP;obtain⟨an,cn,al,cl,kU,hN,hL⟩:=xK;obtain⟨b,hb⟩:∃b,x.aW[k]?=some b:=⟨_,aS (by rw[NP.out];exact aJ)⟩;obtain⟨g1,rfl,amx,aH,e1⟩:=hN.get k b hb;have pz:k<x.aW.length:=by rw[NP.out];exact aJ
   have p1:wr.cell? ⟨w2.heap.size,1,none⟩=some (.slice (some ⟨g1,0,none⟩) x.aW.length cn):=kU.cell 1;have yW:=kU.lt;have HP:=ae (pP.cO kU rfl hN hL k (-1) (by omega)).1;have Sk:wr.frozen? ⟨g1,k,none⟩=false:=by
    obtain⟨rJ,Zf,NQ,-,-,km,-⟩:=xH hN (by omega);simp only[kj,oP,and_true] at NQ;subst NQ;exact km.free k
   have iB:=dF aF (bD wr g1 k (.int .i64 (-1))) aH;have bq:=aQ (wr.setCell ⟨g1,k,none⟩ (.int .i64 (-1))) (.cells (bg t (.slice ao m' cp)) 158) none;have ZG:=ae (HP.out.Z bq);have rj:=ae (aC iB bq);have ant:w.heap.size<=(wr.setCell ⟨g1,k,none⟩ (.int .i64 (-1))).heap.size:=iB.size;clear kU hN hL hb iB bq aF
   cases rN:(t.af==0) with
   | true=>
    have HI:=ae (ZF.out (by simpa using rN));have HC:=ae (Ze w.heap.size w2.heap.size 0 ⟨x.aW.set k (-1),x.lv⟩ k 0 t ao m' cp _ ZG.out (by simp;omega) (by show x.lv.length<=1000;omega) (by simp at ant ⊢;omega) wi.out);clear ht;go_wp2_with fail;refine HC.out.mono ?_;rintro e w4⟨rfl,ZH,kC⟩;have NR:=ae ZH;have fC:=ae (RP rj.out kC (by omega));clear ZH kC HC e1 p1 d0 d1 d2 d3 d4 d5 Sk;go_wp2;go_roundw
    case rel=>exact⟨k+1,by omega,by go_num,by rw[HI.out];exact NR.out,fC.out⟩
    case measure=>simp[intOf];omega
   | false=>
    have HI:=ae (JK.out (by simpa using rN));clear ht;go_wp2;go_roundw
    case rel=>exact⟨k+1,by omega,by go_num,by rw[HI.out];exact ZG.out,rj.out⟩
    case measure=>simp[intOf];omega
  ·obtain rfl:k=md.au.length:=by omega
   have HI:Hid (H.fO md=(H.fN md.au md.au.length).lv.length):=rfl;have Sm:Hid (H.nL md=md.aK.foldl (H.ig ((md.ag.length:Int)+1)) (H.kG md (H.fN md.au md.au.length) md.ag.length)):=rfl;obtain⟨x,Hx⟩:∃x,Hid (H.fN md.au md.au.length=x):=⟨_,rfl⟩;rw[Hx.out] at xK HI Sm tE tC AS;obtain⟨an,cn,al,cl,kU,hN,hL⟩:=xK;have p2:wr.cell? ⟨w2.heap.size,2,none⟩=some (.slice al x.lv.length cl):=kU.cell 2;have p0:wr.cell? ⟨w2.heap.size,0,none⟩=some (.int .i64 0):=kU.cell 0;have fp:=kU.free 0;have iB:=bD wr w2.heap.size 0 (.int .i64 x.lv.length);have ZI:Hid (pP (wr.setCell ⟨w2.heap.size,0,none⟩ (.int .i64 x.lv.length)) w.heap.size w2.heap.size x.lv.length x):=⟨an,cn,al,cl,kU.set 0 _,pL hN kU (by decide) iB,pL hL kU (by decide) iB⟩;have Eo:=ae (dF aF iB Ef);have r1:=aG aF Q1.out;have hmw:¬m=w2.heap.size:=by omega
   clear kU hN hL iB vX HT rV ZE NP xL aF bH;go_wp2;clear p0 p2 fp r1;go_loopw[58] (fun i wq=>∃k:Nat,k<=md.ag.length/\i=.int .i64 k/\pP wq w.heap.size w2.heap.size x.lv.length (H.kG md x k)/\w.grownBy wq none) (fun i _=>md.ag.length-(intOf i).toNat)
   case atStart=>exact⟨0,bK _,rfl,ZI.out,Eo.out⟩
   case round=>
    clear ZI Eo;obtain⟨k,hk,rfl,xK,aF⟩:=hrel;have D:=tE.out k hk;have b1:(H.kG md x k).aW.length<=24:=by rw[D.ln];exact iq
    have b2:(H.kG md x k).lv.length<=40:=by rw[D.ll];omega
    clear D;by_cases aJ:k<md.ag.length
    ·obtain⟨o,ho⟩:∃o,md.ag[k]?=some o:=⟨_,aS aJ⟩
     obtain⟨g,ao,p,cp,rfl,gQ,-,-,hR⟩:=(HO.out.Z aF).get k o ho;have eJ:=ae (anp (d:=x) ho);have HL:=ae (Jp o);have wi:=ae (show dZ (M.aq md o.to) from by
      obtain⟨t0,t1,-⟩:=HS.out.to o (bU ho);exact ZC HS.out (O.kP t0 t1).1)
     obtain⟨y,Hy⟩:∃y,Hid (H.kG md x k=y):=⟨_,rfl⟩;rw[Hy.out] at xK eJ b1 b2;have lC:=ae (aj.bA wr 142 (aO o (.slice ao p cp)));have dN:=ae (aQ wr (.cells (aO o (.slice ao p cp)) 142) none);have JL:=ae xK;have bH:=ae aF;clear xK aF ho;go_wp2_with (first|(refine wpList_load_mid rfl 142 _ rfl g (k*16) rfl (aO o (.slice ao p cp)).toList _ hR underlying142 rfl Tryz.de ?_)|(refine aaY rfl 142 _ _ rfl wr.heap.size (aO o (.slice ao p cp)) rfl rfl 142 (aR 0 0 0 0 0 0 0 0 false (.slice none 0 0) 0 0 0 0 0 0) (aj.bA wr 142 _) Tryz.de rfl (oe ..) ?_;rw[World.setRow_alloc_new];generalize wr.alloc (.cells (aO o (.slice ao p cp)) 142)=w3 at *)|(refine dj rfl 142 _ rfl wr.heap.size rfl 142 (aO o (.slice ao p cp)) (0,0) _ lC.out underlying142 rfl Tryz.de ?_));refine(Nv o ao p cp _).mono ?_;rintro e w4⟨⟨g4,rfl,lS⟩,bm⟩;have Ep:=aC dN.out bm;have NR:=ae (JL.out.Z Ep);have fC:=ae (aC bH.out Ep);have iS:=ae (lC.out.kept bm (by simp));have ky:=ae lS;obtain⟨ob,Er⟩:∃ob,Hid (wr.heap.size=ob):=⟨_,rfl⟩;rw[Er.out] at iS ⊢;obtain⟨L,HLe⟩:∃L,Hid (H.cM o=L):=⟨_,rfl⟩;rw[HLe.out] at ky HL eJ ⊢;have hL:=HL.out;clear bm Ep lS hR lC dN JL;go_wp2;go_loopw[66] (fun i wq=>∃j:Nat,j<=L.length/\i=.int .i64 j/\pP wq w.heap.size w2.heap.size x.lv.length ((L.take j).foldl (H.ig ((k:Int)+1)) y)/\aZ wq w3.heap.size (.slice (some ⟨g4,0,none⟩) L.length L.length) L/\aj wq ob 142 (aO o (.slice ao p cp))/\w.grownBy wq none) (fun i _=>L.length-(intOf i).toNat)
     case atStart=>exact⟨0,bK _,rfl,NR.out,ky.out,iS.out,fC.out⟩
     case round=>
      clear NR ky iS fC;obtain⟨j,rK,rfl,rW,NS,eP,bO⟩:=hrel;have Ex:=H.D7 ((k:Int)+1) (L.take j) y;have e1:((L.take j).foldl (H.ig ((k:Int)+1)) y).aW.length<=24:=by rw[Ex.aW];exact b1
      have e2:((L.take j).foldl (H.ig ((k:Int)+1)) y).lv.length<=40:=by rw[Ex.len];exact b2
      clear Ex;by_cases AK:j<L.length
      ·obtain⟨n,hn⟩:∃n,L[j]?=some n:=⟨_,aS AK⟩
       obtain⟨g',fS,-,-,d0⟩:=NS.get j n hn;simp only[kj,oP,and_true] at fS;subst fS;have JM:=ae (ZD (time:=(k:Int)+1) (d:=y) hn);obtain⟨z,Hz⟩:∃z,Hid ((L.take j).foldl (H.ig ((k:Int)+1)) y=z):=⟨_,rfl⟩;rw[Hz.out] at rW JM e1 e2;have HC:=ae (YP w.heap.size w2.heap.size x.lv.length z n ((k:Int)+1) wr rW (by omega) (by omega));have HIj:=ae NS;have Sn:=ae eP;have cV:=ae bO;clear hn NS eP bO rW;go_wp2_with fail;refine HC.out.mono ?_;rintro e w6⟨rfl,JN,pQ⟩;have So:=ae JN;have CD:=ae (pQ.YO HIj.out);have AN:=ae (pQ.gy Sn.out (by decide));have kI:=ae (pQ.gr cV.out (bj _));clear JN pQ HC d0;go_wp2;go_roundw
       case rel=>exact⟨j+1,by omega,by go_num,by rw[JM.out];exact So.out,CD.out,AN.out,kI.out⟩
       case measure=>simp[intOf];omega
      ·obtain rfl:j=L.length:=by omega
       rw[jm] at rW e1 e2;obtain⟨z,Hz⟩:∃z,Hid (L.foldl (H.ig ((k:Int)+1)) y=z):=⟨_,rfl⟩;rw[Hz.out] at rW e1 e2 eJ;have NT:=ae rW;have Sn:=ae eP;have cV:=ae bO;have k5:wr.cell? ⟨ob,5,none⟩=some (.int .i64 o.to):=eP.cell 5;clear NS rW eP bO;go_wp2_with fail;refine(iW m md o.to wr (HM.out.Z cV.out) (by omega)).mono ?_;rintro e w7⟨t,ht,⟨ta,tp,tc,rfl⟩,dJ⟩;have Sq:=aC dJ (aQ w7 (.cells #[.int .i64 t.af,.int .i64 t.h,.int .i64 t.w,.int .i64 t.c,.int .i64 t.zero,.slice ta tp tc] 158) none);have HD7:=ae (NT.out.Z Sq);have lA:=ae (aC cV.out Sq);have NU:w7.cell? ⟨ob,5,none⟩=some (.int .i64 o.to):=aG dJ k5;have ZJ:=ql w7 _ NU;have axU:ob<w7.heap.size:=ZJ;have hw7:w.heap.size<=w7.heap.size:=(aC cV.out dJ).size;rw[ht.out] at eJ wi;have HC:=ae (Ze w.heap.size w2.heap.size x.lv.length z o.to ((k:Int)+1) t ta tp tc _ HD7.out (by omega) (by omega) (by simp;omega) wi.out);clear dJ Sq k5 ZJ NT Sn;go_wp2_with fail;refine HC.out.mono ?_;rintro e w8⟨rfl,ZK,FR⟩;have HD8:=ae ZK;have fD:=ae (RP lA.out FR (by omega));clear ZK FR HC NU;go_wp2;go_roundw
       case rel=>exact⟨k+1,by omega,by go_num,by rw[eJ.out];exact HD8.out,fD.out⟩
       case measure=>simp[intOf];omega
    ·obtain rfl:k=md.ag.length:=by omega
     have r2:=aG aF Q2.out;obtain⟨y,Hy⟩:∃y,Hid (H.kG md x md.ag.length=y):=⟨_,rfl⟩;rw[Hy.out] at xK Sm b1 b2;have JL:=ae xK;have bH:=ae aF;clear xK aF;go_wp2;clear r2;go_loopw[93] (fun i wq=>∃j:Nat,j<=md.aK.length/\i=.int .i64 j/\pP wq w.heap.size w2.heap.size x.lv.length ((md.aK.take j).foldl (H.ig ((md.ag.length:Int)+1)) y)/\w.grownBy wq none) (fun i _=>md.aK.length-(intOf i).toNat)
     case atStart=>exact⟨0,bK _,rfl,JL.out,bH.out⟩
     case round=>
      clear JL bH;obtain⟨j,rK,rfl,rW,bO⟩:=hrel;have Ex:=H.D7 ((md.ag.length:Int)+1) (md.aK.take j) y;have e1:((md.aK.take j).foldl (H.ig ((md.ag.length:Int)+1)) y).aW.length<=24:=by rw[Ex.aW];exact b1
      have e2:((md.aK.take j).foldl (H.ig ((md.ag.length:Int)+1)) y).lv.length<=40:=by rw[Ex.len];exact b2
      clear Ex;by_cases AK:j<md.aK.length
      ·obtain⟨n,hn⟩:∃n,md.aK[j]?=some n:=⟨_,aS AK⟩
       obtain⟨g',rfl,-,-,d0⟩:=(HU.out.Z bO).get j n hn;have JM:=ae (ZD (time:=(md.ag.length:Int)+1) (d:=y) hn);obtain⟨z,Hz⟩:∃z,Hid ((md.aK.take j).foldl (H.ig ((md.ag.length:Int)+1)) y=z):=⟨_,rfl⟩;rw[Hz.out] at rW JM e1 e2;have HC:=ae (YP w.heap.size w2.heap.size x.lv.length z n ((md.ag.length:Int)+1) wr rW (by omega) (by omega));have r1:=aG bO Q1.out;have cV:=ae bO;clear hn bO rW;go_wp2_with fail;refine HC.out.mono ?_;rintro e w6⟨rfl,JN,pQ⟩;have So:=ae JN;have kI:=ae (pQ.gr cV.out (bj _));clear JN pQ HC d0 r1;go_wp2;go_roundw
       case rel=>exact⟨j+1,by omega,by go_num,by rw[JM.out];exact So.out,kI.out⟩
       case measure=>simp[intOf];omega
      ·obtain rfl:j=md.aK.length:=by omega
       rw[jm] at rW;rw[<-Sm.out] at rW;have NT:=ae rW;have cV:=ae bO;clear rW bO e1 e2;go_wp2;go_ret;exact⟨⟨w2.heap.size,rfl,Ef,by rw[HI.out];exact NT.out⟩,cV.out⟩
theorem NV(x y:H.dE)(b:Bool)(w:World)(h:H.mR x y=b):Calls prog 174 #[.agg #[.int .i64 x.f,.int .i64 x.t,.int .i64 x.c],.agg #[.int .i64 y.f,.int .i64 y.t,.int .i64 y.c]] w fun e w'=>e=.returned (.bool b)/\w.grownBy w' none:=by
 subst h;exact ak5 x y w
theorem anA{lv:List H.dE}{ld:List H.Bf}{l:H.dE}{p:Int}{k:Nat}{x:H.dE}{b:H.Bf}(hx:lv[k]?=some x)(hb:ld[k]?=some b)(h:H.Ay lv ld l p k=true)(hc:H.rR x b l p=false):H.Ay lv ld l p (k+1)=true:=by
 refine H.IZ.mpr fun i hi=>?_;rcases(show i<k\/i=k by omega) with h' | rfl
 ·exact H.IZ.mp h i h'
 ·rw[getD_some hx,getD_some hb];exact hc
theorem anB{lv:List H.dE}{ld:List H.Bf}{l:H.dE}{p:Int}{k n:Nat}{x:H.dE}{b:H.Bf}(hx:lv[k]?=some x)(hb:ld[k]?=some b)(hk:k<n)(hc:H.rR x b l p=true):H.Ay lv ld l p n=false:=by
 cases e:H.Ay lv ld l p n with
 | false=>rfl
 | true=>
  have:=H.IZ.mp e k hk;rw[getD_some hx,getD_some hb,hc] at this;exact aN this (by decide)
theorem ZL(B1 B2:Nat)(a1 a2:Option Addr)(n1 c1 n2 c2:Nat)(lv:List H.dE)(ld:List H.Bf)(l:H.dE)(p:Int)(w:World)(h1:pK w B1 (.slice a1 n1 c1) lv)(h2:mT w B2 (.slice a2 n2 c2) ld)(hl:lv.length=ld.length)(hn:ld.length<=1000)(hb:Ea ld)
  (Fo:0<=p) (eW:p<=2000000) (vC:0<=l.c) (AT:l.c<=1000000) :
  Calls prog 150 #[.slice a1 n1 c1,.slice a2 n2 c2,.agg #[.int .i64 l.f,.int .i64 l.t,.int .i64 l.c],.int .i64 p] w fun e w'=>e=.returned (.bool (H.ux lv ld l p))/\w.grownBy w' none:=by
 obtain rfl:=h1.len;obtain rfl:=h2.len;have Hb:=ae hb;have HF:Hid (H.ux lv ld l p=H.Ay lv ld l p ld.length):=by unfold Hid H.ux;rw[hl,Nat.min_self]
 have tC:lv.length<=ld.length:=by omega
 have AS:ld.length<=lv.length:=by omega
 clear hl;have H1:=ae h1;have H2:=ae h2;have N0:=ae (aj.bA w 165 #[.int .i64 l.f,.int .i64 l.t,.int .i64 l.c]);have G0:=ae (aQ w (.cells #[.int .i64 l.f,.int .i64 l.t,.int .i64 l.c] 165) none);clear hb h1 h2;go_enter func150,ntmps150;go_wp2;go_loopw[9] (fun i wr=>∃k:Nat,k<=ld.length/\i=.int .i64 k/\H.Ay lv ld l p k=true/\aj wr w.heap.size 165 #[.int .i64 l.f,.int .i64 l.t,.int .i64 l.c]/\w.grownBy wr none) (fun i _=>ld.length-(intOf i).toNat)
 case atStart=>exact⟨0,bK _,rfl,rfl,N0.out,G0.out⟩
 case round=>
  obtain⟨k,hk,rfl,rl,bV,aF⟩:=hrel;have JO:=ae rl;clear rl;by_cases aJ:k<ld.length
  ·obtain⟨x,hx⟩:∃x,lv[k]?=some x:=⟨_,aS (by omega)⟩
   obtain⟨b,hb⟩:∃b,ld[k]?=some b:=⟨_,aS aJ⟩;obtain⟨g1,rfl,-,d0,d1,d2⟩:=pK.get (eY H1.out aF) k x hx;obtain⟨g2,rfl,-,e0,e1⟩:=mT.get (eY H2.out aF) k b hb;obtain⟨b0,b1,b2,b3⟩:=Hb.out k b hb;have oD:=ae fun hc=>anB (n:=ld.length) (l:=l) (p:=p) hx hb aJ hc;have fm:=ae fun hc=>anA (l:=l) (p:=p) hx hb JO.out hc;have f0:wr.cell? ⟨w.heap.size,0,none⟩=some (.int .i64 l.f):=bV.cell 0;have f1:wr.cell? ⟨w.heap.size,1,none⟩=some (.int .i64 l.t):=bV.cell 1;have f2:wr.cell? ⟨w.heap.size,2,none⟩=some (.int .i64 l.c):=bV.cell 2;have eK:=ae bV;have bH:=ae aF;clear hx hb bV aF;go_wp2;go_quiet (fail);obtain⟨wq,AP⟩:∃wq,wq=wr.drewN nq:=⟨_,rfl⟩;rw[<-AP];have iy:=ae (show wr.grownBy wq none by rw[AP];exact bE _ _ _);clear AP;have r0:=cell_regrown (aG iy.out d0);have r1:=cell_regrown (aG iy.out d1);have r2:=cell_regrown (aG iy.out d2);have r3:=cell_regrown (aG iy.out f0);have r4:=cell_regrown (aG iy.out f1);have r5:=cell_regrown (aG iy.out f2);have r6:=cell_regrown (aG iy.out e0);clear d0 d1 d2 e0 e1 f0 f1 f2
   cases hm:H.mR x l with
   | false=>
    have Hc:=ae (show H.rR x b l p=false by unfold H.rR;rw[hm];rfl);have Hm:=ae hm;clear hm;have HC:=ae (Jg (w:=wq) fun W _=>(NV x l false W Hm.out));go_wp2;refine wp_region_quiet_below (by kernel_rfl) (by kernel_rfl) ?_
    quiet_step (fail)
    quiet_step (fail)
    quiet_step (fail)
    quiet_step (fail)
    quiet_step (fail)
    quiet_step (exact HC.out _ _)
    go_big_quiet_step (fail)
    go_big_quiet_step (fail)
    go_big_quiet_step (fail)
    go_big_quiet_step (fail)
    go_big_quiet_step (fail)
    go_big_quiet_step (fail)
    go_big_quiet_step (fail)
    go_big_quiet_step (fail)
    go_big_quiet_step (fail)
    go_big_quiet_step (fail)
    go_big_quiet_step (fail)
    go_big_quiet_step (fail)
    go_big_quiet_step (fail)
    go_big_quiet_step (fail)
    go_big_quiet_step (fail)
    go_big_quiet_step (fail)
    go_big_quiet_step (fail)
    refine wpQuiet_nil ?_;intro _ rS;obtain⟨⟨dq,osq⟩,AA⟩:=rS;subst AA;have g7:=aC iy.out (BE (below_regrown wq dq osq));have wj:=ae (eK.out.kept g7 (by simp));have lA:=ae (aC bH.out g7);clear g7 r0 r1 r2 r3 r4 r5 r6 HC;generalize Go.Sort.grow (redrawn wq dq) osq=w7 at *;go_wp2;go_roundw
    case rel=>exact⟨k+1,by omega,by go_num,fm.out Hc.out,wj.out,lA.out⟩
    case measure=>simp[intOf];omega
   | true=>
    have Hm:=ae hm;by_cases h1:p<b.a+b.c
    ·have Jx:decide (p<b.a+b.c)=true:=by simpa using h1
     by_cases h2:b.a<p+l.c
     ·have Jy:decide (b.a<p+l.c)=true:=by simpa using h2
      have Hc:=ae (show H.rR x b l p=true by unfold H.rR;rw[hm,eG (show p<b.e from h1),eG h2];rfl);clear hm;have HC:=ae (Jg (w:=wq) fun W _=>(NV x l true W Hm.out));go_wp2;refine wp_region_quiet_below (by kernel_rfl) (by kernel_rfl) ?_
      quiet_step (fail)
      quiet_step (fail)
      quiet_step (fail)
      quiet_step (fail)
      quiet_step (fail)
      quiet_step (exact HC.out _ _)
      go_big_quiet_step (fail)
      go_big_quiet_step (fail)
      go_big_quiet_step (fail)
      go_big_quiet_step (fail)
      go_big_quiet_step (fail)
      go_big_quiet_step (fail)
      go_big_quiet_step (fail)
      go_big_quiet_step (fail)
      go_big_quiet_step (fail)
      go_big_quiet_step (fail)
      go_big_quiet_step (fail)
      go_big_quiet_step (fail)
      go_big_quiet_step (fail)
      go_big_quiet_step (fail)
      go_big_quiet_step (fail)
      go_big_quiet_step (fail)
      go_big_quiet_step (fail)
      refine wpQuiet_nil ?_;intro _ rS;obtain⟨⟨dq,osq⟩,AA⟩:=rS;subst AA;have g7:=aC iy.out (BE (below_regrown wq dq osq));have wj:=ae (eK.out.kept g7 (by simp));have lA:=ae (aC bH.out g7);clear g7 r0 r1 r2 r3 r4 r5 r6 HC;generalize Go.Sort.grow (redrawn wq dq) osq=w7 at *;go_wp2;go_ret;exact⟨bB (by rw[HF.out,oD.out Hc.out]),lA.out⟩
     ·have Jy:decide (b.a<p+l.c)=false:=by simpa using h2
      have Hc:=ae (show H.rR x b l p=false by unfold H.rR;rw[eE h2,Bool.and_false]);clear hm;have HC:=ae (Jg (w:=wq) fun W _=>(NV x l true W Hm.out));go_wp2;refine wp_region_quiet_below (by kernel_rfl) (by kernel_rfl) ?_
      quiet_step (fail)
      quiet_step (fail)
      quiet_step (fail)
      quiet_step (fail)
      quiet_step (fail)
      quiet_step (exact HC.out _ _)
      go_big_quiet_step (fail)
      go_big_quiet_step (fail)
      go_big_quiet_step (fail)
      go_big_quiet_step (fail)
      go_big_quiet_step (fail)
      go_big_quiet_step (fail)
      go_big_quiet_step (fail)
      go_big_quiet_step (fail)
      go_big_quiet_step (fail)
      go_big_quiet_step (fail)
      go_big_quiet_step (fail)
      go_big_quiet_step (fail)
      go_big_quiet_step (fail)
      go_big_quiet_step (fail)
      go_big_quiet_step (fail)
      go_big_quiet_step (fail)
      go_big_quiet_step (fail)
      refine wpQuiet_nil ?_;intro _ rS;obtain⟨⟨dq,osq⟩,AA⟩:=rS;subst AA;have g7:=aC iy.out (BE (below_regrown wq dq osq));have wj:=ae (eK.out.kept g7 (by simp));have lA:=ae (aC bH.out g7);clear g7 r0 r1 r2 r3 r4 r5 r6 HC;generalize Go.Sort.grow (redrawn wq dq) osq=w7 at *;go_wp2;go_roundw
      case rel=>exact⟨k+1,by omega,by go_num,fm.out Hc.out,wj.out,lA.out⟩
      case measure=>simp[intOf];omega
    ·have Jx:decide (p<b.a+b.c)=false:=by simpa using h1
     have Hc:=ae (show H.rR x b l p=false by unfold H.rR;rw[eE (show ¬p<b.e from h1),Bool.and_false,Bool.false_and]);clear hm;have HC:=ae (Jg (w:=wq) fun W _=>(NV x l true W Hm.out));go_wp2;refine wp_region_quiet_below (by kernel_rfl) (by kernel_rfl) ?_
     quiet_step (fail)
     quiet_step (fail)
     quiet_step (fail)
     quiet_step (fail)
     quiet_step (fail)
     quiet_step (exact HC.out _ _)
     go_big_quiet_step (fail)
     go_big_quiet_step (fail)
     go_big_quiet_step (fail)
     go_big_quiet_step (fail)
     go_big_quiet_step (fail)
     go_big_quiet_step (fail)
     go_big_quiet_step (fail)
     go_big_quiet_step (fail)
     go_big_quiet_step (fail)
     go_big_quiet_step (fail)
     go_big_quiet_step (fail)
     go_big_quiet_step (fail)
     go_big_quiet_step (fail)
     go_big_quiet_step (fail)
     go_big_quiet_step (fail)
     go_big_quiet_step (fail)
     go_big_quiet_step (fail)
     refine wpQuiet_nil ?_;intro _ rS;obtain⟨⟨dq,osq⟩,AA⟩:=rS;subst AA;have g7:=aC iy.out (BE (below_regrown wq dq osq));have wj:=ae (eK.out.kept g7 (by simp));have lA:=ae (aC bH.out g7);clear g7 r0 r1 r2 r3 r4 r5 r6 HC;generalize Go.Sort.grow (redrawn wq dq) osq=w7 at *;go_wp2;go_roundw
     case rel=>exact⟨k+1,by omega,by go_num,fm.out Hc.out,wj.out,lA.out⟩
     case measure=>simp[intOf];omega
  ·obtain rfl:k=ld.length:=by omega
   go_wp2;go_ret;exact⟨bB (by rw[HF.out,JO.out]),aF⟩
theorem anC(B1 B2:Nat)(a1 a2:Option Addr)(n1 c1 n2 c2:Nat)(lv:List H.dE)(ld:List H.Bf)(w:World)(h1:pK w B1 (.slice a1 n1 c1) lv)(h2:mT w B2 (.slice a2 n2 c2) ld)(hl:lv.length=ld.length)(hn:ld.length<=1000) :
  Calls prog 109 #[.slice a1 n1 c1,.slice a2 n2 c2] w fun e w'=>e=.returned (.int .i64 (H.pI lv ld))/\w'=w:=by
 obtain rfl:=h1.len;obtain rfl:=h2.len;have HF:Hid (H.pI lv ld=(H.pH lv ld ld.length).1):=by unfold Hid H.pI;rw[hl,Nat.min_self]
 have tC:lv.length<=ld.length:=by omega
 have AS:ld.length<=lv.length:=by omega
 clear hl;go_enter func109,ntmps109;go_wp2;go_loopw[5,6,7] (fun b m i wr=>∃k:Nat,k<=ld.length/\i=.int .i64 k/\b=.int .i64 (H.pH lv ld k).1/\m=.int .i64 (H.pH lv ld k).2/\wr=w) (fun _ _ i _=>ld.length-(intOf i).toNat)
 case atStart=>exact⟨0,bK _,rfl,rfl,rfl,rfl⟩
 case round=>
  obtain⟨k,hk,rfl,rfl,rfl,rfl⟩:=hrel;by_cases aJ:k<ld.length
  ·obtain⟨x,hx⟩:∃x,lv[k]?=some x:=⟨_,aS (by omega)⟩
   obtain⟨b,hb⟩:∃b,ld[k]?=some b:=⟨_,aS aJ⟩;obtain⟨g1,rfl,-,d0,d1,d2⟩:=pK.get h1 k x hx;obtain⟨g2,rfl,-,e0,e1⟩:=mT.get h2 k b hb;have HS:Hid (H.pH lv ld (k+1)=if b.c=0/\(H.pH lv ld k).2<x.c then ((k:Int),x.c) else H.pH lv ld k):=by
    unfold Hid;rw[H.pH,getD_some hx,getD_some hb]
   clear hx hb h1 h2 d0 d1;generalize H.pH lv ld k=s at *;obtain⟨s1,s2⟩:=s;simp only at *
   cases hz:(b.c==0) with
   | false=>
    have xM:¬(b.c=0/\s2<x.c):=fun h=>by simp[h.1] at hz
    rw[ak xM] at HS;clear xM;go_wp2;go_roundw
    case rel=>exact⟨k+1,by omega,by go_num,by rw[HS.out],by rw[HS.out],by trivial⟩
    case measure=>simp[intOf];omega
   | true=>
    have cQ:b.c=0:=by simpa using hz
    by_cases hs:s2<x.c
    ·rw[ay ⟨cQ,hs⟩] at HS
     clear cQ;go_wp2;go_roundw
     case rel=>exact⟨k+1,by omega,by go_num,by rw[HS.out],by rw[HS.out],by trivial⟩
     case measure=>simp[intOf];omega
    ·rw[ak (fun h=>hs h.2)] at HS
     clear cQ;go_wp2;go_roundw
     case rel=>exact⟨k+1,by omega,by go_num,by rw[HS.out],by rw[HS.out],by trivial⟩
     case measure=>simp[intOf];omega
  ·obtain rfl:k=ld.length:=by omega
   clear h1 h2;go_wp2;go_ret;exact⟨cH (by rw[HF.out]),rfl⟩
theorem ZM{lv:List H.dE}{ld:List H.Bf}{l:H.dE}{k:Nat}{b:H.Bf}(h:ld[k]?=some b):H.oZ lv ld l (k+1)=if b.a+b.c<H.oZ lv ld l k/\H.ux lv ld l (b.a+b.c)=true then b.a+b.c else H.oZ lv ld l k:=by
 rw[H.oZ,getD_some h];rfl
theorem ZN{lv:List H.dE}{ld:List H.Bf}{l:H.dE}(h:Ea ld):∀k,0<=H.oZ lv ld l k/\H.oZ lv ld l k<=2000000
 | 0=>RC h _
 | k+1=>by
  have ih:=ZN (lv:=lv) (l:=l) h k
  cases e:ld[k]? with
  | none=>
   have:H.oZ lv ld l (k+1)=if (ld.getD k H.aV).e<H.oZ lv ld l k/\H.ux lv ld l (ld.getD k H.aV).e=true then (ld.getD k H.aV).e else H.oZ lv ld l k:=rfl;rw[this,List.getD,e];have e0:((none:Option H.Bf).getD H.aV).e=0:=rfl;rw[e0]
   split<;>omega
  | some b=>
   have hb:=h k b e;rw[ZM e]
   split<;>omega
theorem anD(B1 B2:Nat)(a1 a2:Option Addr)(n1 c1 n2 c2:Nat)(lv:List H.dE)(ld:List H.Bf)(l:H.dE)(w:World)(h1:pK w B1 (.slice a1 n1 c1) lv)(h2:mT w B2 (.slice a2 n2 c2) ld)(hl:lv.length=ld.length)(hn:ld.length<=1000)(hb:Ea ld)
  (vC:0<=l.c) (AT:l.c<=1000000) :
  Calls prog 110 #[.slice a1 n1 c1,.slice a2 n2 c2,.agg #[.int .i64 l.f,.int .i64 l.t,.int .i64 l.c]] w fun e w'=>e=.returned (.int .i64 (H.qt lv ld l))/\w.grownBy w' none:=by
 obtain rfl:=h2.len;have Hb:=ae hb;have H1:=ae h1;have H2:=ae h2;have N0:=ae (aj.bA w 165 #[.int .i64 l.f,.int .i64 l.t,.int .i64 l.c]);have G0:=ae (aQ w (.cells #[.int .i64 l.f,.int .i64 l.t,.int .i64 l.c] 165) none);have HC:=ae (ZL B1 B2 a1 a2 n1 c1 ld.length c2 lv ld l 0 _ (eY h1 G0.out) (eY h2 G0.out) hl hn hb (by decide) (by decide) vC AT);have Hl:=ae hl;clear hb h1 h2 hl;go_enter func110,ntmps110;go_wp2_with fail;refine HC.out.mono ?_;rintro e w1⟨rfl,aH⟩;have dN:=ae (aC G0.out aH);have N1:=ae (N0.out.kept aH (by simp));clear HC aH
 cases hf:H.ux lv ld l 0 with
 | true=>
  have He:=ae (show H.qt lv ld l=0 by unfold H.qt;rw[ay hf]);clear hf;go_wp2;go_ret;exact⟨cH He.out.symm,dN.out⟩
 | false=>
  have He:=ae (show H.qt lv ld l=H.oZ lv ld l ld.length by unfold H.qt;rw[ak (by rw[hf];decide)]);clear hf;go_wp2_with fail;refine(X9 B2 a2 ld.length c2 ld w1 (eY H2.out dN.out) hn Hb.out).mono ?_;rintro e w2⟨rfl,aM⟩;have dU:=ae (aC dN.out aM);have N2:=ae (N1.out.kept aM (by simp));clear aM N0 N1 G0 dN;go_wp2;go_loopw[7,19] (fun b i wr=>∃k:Nat,k<=ld.length/\i=.int .i64 k/\b=.int .i64 (H.oZ lv ld l k)/\aj wr w.heap.size 165 #[.int .i64 l.f,.int .i64 l.t,.int .i64 l.c]/\w.grownBy wr none) (fun _ i _=>ld.length-(intOf i).toNat)
  case atStart=>exact⟨0,bK _,rfl,rfl,N2.out,dU.out⟩
  case round=>
   obtain⟨k,hk,rfl,rfl,bV,aF⟩:=hrel;have hs:=ZN (lv:=lv) (l:=l) Hb.out k;by_cases aJ:k<ld.length
   ·obtain⟨b,hx⟩:∃b,ld[k]?=some b:=⟨_,aS aJ⟩
    obtain⟨g,rfl,gQ,d0,d1⟩:=mT.get (eY H2.out aF) k b hx;have eD:=Hb.out k b hx;have HE:=ae (ZM (lv:=lv) (l:=l) hx);have rj:=ae (aQ wr (.cells (gm b).toArray 125) none);have HG:=ae (aC aF rj.out);have iA:=bV.kept rj.out (by simp);have AU:=bV.lt;have fU:=ae iA;have f0:wr.cell? ⟨w.heap.size,0,none⟩=some (.int .i64 l.f):=bV.cell 0;have f1:wr.cell? ⟨w.heap.size,1,none⟩=some (.int .i64 l.t):=bV.cell 1;have f2:wr.cell? ⟨w.heap.size,2,none⟩=some (.int .i64 l.c):=bV.cell 2;have HC:=ae (fun(p:Int) (p0:0<=p) (p1:p<=2000000)=>ZL B1 B2 a1 (some ⟨g,0,none⟩) n1 c1 ld.length c2 lv ld l p (wr.alloc (.cells (gm b).toArray 125)) (eY H1.out HG.out) (eY H2.out HG.out) Hl.out hn Hb.out p0 p1 vC AT);clear hx iA bV aF;generalize H.oZ lv ld l k=s at *;obtain⟨ba,bc⟩:=b;simp only at *;by_cases hc:ba+bc<s
    ·have jd:=ae (HC.out (ba+bc) (by omega) (by omega))
     go_wp2_with fail;refine jd.out.mono ?_;rintro e w5⟨rfl,cK⟩;have iC:=ae (aC HG.out cK);have oE:=ae (fU.out.kept cK (by simp));clear cK f0 f1 f2 d0 d1 HC jd
     cases hf:H.ux lv ld l (ba+bc) with
     | true=>
      rw[ay ⟨hc,hf⟩] at HE;clear hf;go_wp2;go_roundw
      case rel=>exact⟨k+1,by omega,by go_num,by rw[HE.out],oE.out,iC.out⟩
      case measure=>simp[intOf];omega
     | false=>
      rw[ak (by rw[hf];simp)] at HE;clear hf;go_wp2;go_roundw
      case rel=>exact⟨k+1,by omega,by go_num,by rw[HE.out],oE.out,iC.out⟩
      case measure=>simp[intOf];omega
    ·rw[ak (fun h=>hc h.1)] at HE
     go_wp2;go_roundw
     case rel=>exact⟨k+1,by omega,by go_num,by rw[HE.out],fU.out,HG.out⟩
     case measure=>simp[intOf];omega
   ·obtain rfl:k=ld.length:=by omega
    go_wp2;go_ret;exact⟨cH He.out.symm,aF⟩
theorem Sr{lv:List H.dE}{k:Nat}(h:H.pI lv (H.fK lv k)<0\/((H.fK lv k).length:Int)<=H.pI lv (H.fK lv k)):∀j,H.fK lv (k+j)=H.fK lv k
 | 0=>rfl
 | j+1=>by
  show H.Ci lv (H.fK lv (k+j))=_;rw[Sr h j];unfold H.Ci;rw[ay h]
theorem ZO{lv:List H.dE}(hc:∀i,i<lv.length->1<=(lv.getD i H.bQ).c/\(lv.getD i H.bQ).c<=512)(hn:lv.length<=100)(k:Nat):Ea (H.fK lv k)/\(H.fK lv k).length=lv.length:=by
 have L:=(H.Ru (fun i hi=>(hc i hi).1) k).1;refine⟨fun i b hb=>?_,L.len⟩;have hi:i<(H.fK lv k).length:=M.bP hb;have fq:i<lv.length:=by rw[<-L.len];exact hi
 have hs:∀(l:List H.Bf),(∀b∈l,0<=b.c/\b.c<=512)->0<=H.sumC l/\H.sumC l<=512*(l.length:Int):=by
  intro l
  induction l with
  | nil=>intro _;simp[H.sumC]
  | cons x l ih=>
   intro h;have h1:=h x pC;have h2:=ih fun b hb=>h b (sZ _ hb);simp only[H.sumC,pN];omega
 have Ag:∀b∈H.fK lv k,0<=b.c/\b.c<=512:=by
  intro b' oz;obtain⟨j,hj⟩:=mQ oz;have ko:j<lv.length:=by rw[<-L.len];exact M.bP hj
  have:=L.bN j ko;rw[getD_some hj] at this;have h2:=hc j ko;rcases this with e|e
  ·rw[e];decide
  ·rw[e.1];omega
 have h3:=hs _ Ag;have h4:=L.sum;have h5:=H.Rt hi;rw[getD_some hb] at h5;have h6:=L.bN i fq;rw[getD_some hb] at h6;have h7:=Ag b (bU hb);have h8:b.e=b.a+b.c:=rfl;have h9:=L.len;rcases h6 with e|e
 ·rw[e];decide
 ·omega
theorem anE(xs:List H.Bf)(i:Nat)(x y:H.Bf)(h:xs[i]?=some x):((xs.flatMap gm).set (i*2) (.int .i64 y.a)).set (i*2+1) (.int .i64 y.c)=(xs.set i y).flatMap gm:=by
 have e1:=vS gm 2 (fun _=>rfl) xs i 0 x ⟨y.a,x.c⟩ (.int .i64 y.a) h (by decide) rfl;rw[Nat.add_zero] at e1;rw[e1];have h2:(xs.set i ⟨y.a,x.c⟩)[i]?=some ⟨y.a,x.c⟩:=by rw[ox,ay rfl,ay (M.bP h)]
 have e2:=vS gm 2 (fun _=>rfl) (xs.set i ⟨y.a,x.c⟩) i 1 ⟨y.a,x.c⟩ y (.int .i64 y.c) h2 (by decide) rfl;rw[e2,List.set_set]
theorem anF{lv:List H.dE}{k i:Nat}{x:H.dE}(h:H.pI lv (H.fK lv k)=i)(hi:i<(H.fK lv k).length)(hx:lv[i]?=some x):H.fK lv (k+1)=(H.fK lv k).set i ⟨H.qt lv (H.fK lv k) x,x.c⟩:=by
 show H.Ci lv (H.fK lv k)=_;unfold H.Ci;rw[h,ak (by omega),eC];unfold H.put;rw[getD_some hx]
theorem Tryz.Ss:(prog.info? 125).map (fun i=>(i.zero,i.size,i.bytes))=some (some (.agg #[.int .i64 0,.int .i64 0]),2,16):=by kernel_rfl
theorem anG(n:Nat):(madeCells #[.int .i64 0,.int .i64 0] (n*2)).toList=(List.replicate n H.aV).flatMap gm:=by
 apply nM
 intro i;by_cases h:i<n*2
 ·have e1:=lP gm 2 (fun _=>rfl) (List.replicate n H.aV) (i/2) (i%2) H.aV (by rw[ui,ay (by omega)]) (by omega)
  rw[show i/2*2+i%2=i by omega] at e1;rw[e1];rcases(show i%2=0\/i%2=1 by omega) with e|e<;>rw[e]<;>simp[madeCells,h,gm,H.aV,e]
 ·rw[db,db]
  ·simp[List.length_flatMap,gm];omega
  ·simp[madeCells];omega
theorem anH(B:Nat)(a1:Option Addr)(n1 c1:Nat)(lv:List H.dE)(w:World)(h1:pK w B (.slice a1 n1 c1) lv)(hc:∀i,i<lv.length->1<=(lv.getD i H.bQ).c/\(lv.getD i H.bQ).c<=512)(hn:lv.length<=100) :
  Calls prog 65 #[.slice a1 n1 c1] w fun e w'=>(∃g,e=.returned (.slice (some ⟨g,0,none⟩) (H.fg lv).length (H.fg lv).length)/\mT w' w.heap.size (.slice (some ⟨g,0,none⟩) (H.fg lv).length (H.fg lv).length) (H.fg lv))/\w.grownBy w' none:=by
 obtain rfl:=h1.len;obtain⟨i0,hi,cP,cQ,cZ⟩:=info_parts Tryz.Ss;have H1:=ae h1;have tE:=ae (fun k=>ZO hc hn k);have Hc:=ae hc;have Su:Hid (H.fK lv lv.length=H.fg lv):=rfl;clear h1 hc;go_enter func65,ntmps65;go_wp2_with (at_make;refine qg _ rfl _ _ 98 rfl w.heap.size 125 i0 (.agg #[.int .i64 0,.int .i64 0]) 2 underlying98 hi cP cQ _ _ _ _ lv.length rfl rfl rfl rfl ?c1 ?c2 ?c3 ?_)
 case c1=>rw[cZ];omega
 case c2=>unfold maxLen;omega
 case c3=>exact bj _
 intro w2 cB aM;have iD:=ae (show mT w2 w.heap.size (.slice (some ⟨w.heap.size,0,none⟩) lv.length lv.length) (H.fK lv 0) by
  unfold mT;rw[anG] at cB;have e:H.fK lv 0=List.replicate lv.length H.aV:=rfl;rw[e,vT];exact cB)
 clear cB;go_wp2;go_loopw[11] (fun i wr=>∃k:Nat,k<=lv.length/\i=.int .i64 k/\mT wr w.heap.size (.slice (some ⟨w.heap.size,0,none⟩) lv.length lv.length) (H.fK lv k)/\w.grownBy wr none) (fun i _=>lv.length-(intOf i).toNat)
 case atStart=>exact⟨0,bK _,rfl,iD.out,aM⟩
 case round=>
  obtain⟨k,hk,rfl,bV,aF⟩:=hrel;obtain⟨jz,wu⟩:=tE.out k;have eK:=ae bV;have bH:=ae aF;by_cases aJ:k<lv.length
  ·have HC:=ae (anC B w.heap.size a1 (some ⟨w.heap.size,0,none⟩) lv.length c1 lv.length lv.length lv (H.fK lv k) wr (eY H1.out aF) bV wu.symm (by omega))
   have anI:=ae jz;have xN:=ae wu;clear bV aF jz wu;go_wp2_with fail;refine HC.out.mono ?_;rintro e w3⟨rfl,rfl⟩;clear HC;by_cases rX:H.pI lv (H.fK lv k)<0
   ·have HE:=ae (Sr (.inl rX) (lv.length-k))
    rw[show k+(lv.length-k)=lv.length by omega,Su.out] at HE;generalize H.pI lv (H.fK lv k)=q at *;go_wp2;go_ret;have hl:(H.fg lv).length=lv.length:=by rw[HE.out];exact xN.out
    refine⟨⟨w.heap.size,?_,?_⟩,bH.out⟩
    ·rw[hl];rfl
    ·rw[hl,HE.out];exact eK.out
   ·by_cases Af:(lv.length:Int)<=H.pI lv (H.fK lv k)
    ·have HE:=ae (Sr (.inr (by rw[xN.out];exact Af)) (lv.length-k))
     rw[show k+(lv.length-k)=lv.length by omega,Su.out] at HE;generalize H.pI lv (H.fK lv k)=q at *;go_wp2;go_ret;have hl:(H.fg lv).length=lv.length:=by rw[HE.out];exact xN.out
     refine⟨⟨w.heap.size,?_,?_⟩,bH.out⟩
     ·rw[hl];rfl
     ·rw[hl,HE.out];exact eK.out
    ·obtain⟨i,hq⟩:=fT (show 0<=H.pI lv (H.fK lv k) by omega)
     have fq:i<lv.length:=by omega
     obtain⟨x,hx⟩:∃x,lv[i]?=some x:=⟨_,aS fq⟩;obtain⟨y,hy⟩:∃y,(H.fK lv k)[i]?=some y:=⟨_,aS (by rw[xN.out];exact fq)⟩;obtain⟨g1,rfl,-,d0,d1,d2⟩:=pK.get (eY H1.out bH.out) i x hx;obtain⟨g2,e2,-,e0,e1⟩:=mT.get eK.out i y hy;simp only[kj,oP,and_true] at e2;subst e2;have NW:=Hc.out i fq;rw[getD_some hx] at NW;have HP:=ae (anF hq (by rw[xN.out];exact fq) hx);have HS:=ae (fun z=>anE (H.fK lv k) i y z hy);have HC:=ae (anD B w.heap.size (some ⟨g1,0,none⟩) (some ⟨w.heap.size,0,none⟩) lv.length c1 lv.length lv.length lv (H.fK lv k) x w3 (eY H1.out bH.out) eK.out xN.out.symm (by rw[xN.out];omega) anI.out (by omega) (by omega));rw[hq];clear hq hx hy rX Af;obtain⟨p,Hp⟩:∃p,Hid (H.qt lv (H.fK lv k) x=p):=⟨_,rfl⟩;rw[Hp.out] at HC HP;go_wp2_with fail;refine HC.out.mono ?_;rintro e w4⟨rfl,bm⟩;have iS:=ae (eY eK.out bm);have fC:=ae (aC bH.out bm);have d2':=aG bm d2;have e0':=aG bm e0;have NQ:=aG bm e1;have rl:∀j,w4.frozen? ⟨w.heap.size,j,none⟩=false:=by
      obtain⟨g5,dY,e5,-,-,NX,-⟩:=xH iS.out (by rw[xN.out];omega);simp only[kj,oP,and_true] at e5;subst e5;exact fun j=>NX.free j
     have f0:=rl (i*2);have f1:=rl (i*2+1);have AN:=ae (Eg (Eg iS.out (i*2) (.int .i64 p)) (i*2+1) (.int .i64 x.c));have kI:=ae (dF (dF fC.out (bD w4 w.heap.size (i*2) (.int .i64 p)) (bj _)) (bD (w4.setCell ⟨w.heap.size,i*2,none⟩ (.int .i64 p)) w.heap.size (i*2+1) (.int .i64 x.c)) (bj _));clear bm d0 d1 d2 e0 e1 rl HC;go_wp2;go_roundw
     case rel=>
      refine⟨k+1,by omega,by go_num,?_,kI.out⟩;have e:=AN.out;have eS:=HS.out ⟨p,x.c⟩;rw[eS,<-HP.out] at e;have AS:=(tE.out (k+1)).2;unfold mT;rw[AS];rw[xN.out] at e;exact e
     case measure=>simp[intOf];omega
  ·obtain rfl:k=lv.length:=by omega
   rw[Su.out] at bV wu;clear eK bH;go_wp2;go_ret;refine⟨⟨w.heap.size,?_,?_⟩,aF⟩
   ·rw[wu];rfl
   ·rw[wu];exact bV
theorem anL(s:ByteArray)(w:World)(hs:s.size<=9223372036854775807) :
  Calls prog 62 #[.string s] w fun e w'=>w.grownBy w' none/\((M.fh s≠0/\e=.returned (.tuple #[.pointer none,.int .i64 (M.fh s)])) \/
   (M.fh s=0/\∃m,w.heap.size<=m/\e=.returned (.tuple #[.pointer (some ⟨m,0,none⟩),.int .i64 0])/\cN w' m (M.gD s).1/\lO (M.gD s).1)):=by
 by_cases hl:4096<s.size
 ·have He:=ae (show M.fh s=1 by unfold M.fh M.nY;rw[ay (by rw[ay hl];decide),ay hl])
  go_enter func62,ntmps62;go_wp2_with fail;refine(ais s w hl hs).mono ?_;rintro e w1⟨rfl,aH⟩;go_wp2
  go_ret2
  exact⟨aH,.inl ⟨by rw[He.out];decide,by rw[He.out];rfl⟩⟩
 ·go_enter func62,ntmps62
  go_wp2_with fail;refine(aiw s w (by omega)).mono ?_;rintro e w1⟨aH,⟨hp,rfl⟩|⟨hp,m,hm,rfl,hM,hW⟩⟩
  ·have He:=ae (show M.fh s=2 by unfold M.fh;rw[ay (by rw[hp];decide),hp])
   clear hp;go_wp2
   go_ret2
   exact⟨aH,.inl ⟨by rw[He.out];decide,by rw[He.out];rfl⟩⟩
  ·have He:=ae (show M.fh s=M.check (M.gD s).1 by unfold M.fh;rw[ak (by rw[hp];decide)])
   clear hp;obtain⟨md,BQ⟩:∃md,md=(M.gD s).1:=⟨_,rfl⟩;rw[<-BQ] at He hM hW;have BS:=ae BQ;clear BQ;go_wp2_with fail;refine(ajZ m md w1 hM hW).mono ?_;rintro e w2⟨rfl,aM⟩;have G2:=aC aH aM;have M2:=hM.Z aM;clear aH aM hM
   cases hc:(M.check md !=0) with
   | true=>
    have bF:M.check md≠0:=by simpa using hc
    have Hc:=ae bF;clear bF;go_wp2
    go_ret2
    exact⟨G2,.inl ⟨by rw[He.out];exact Hc.out,by rw[He.out];rfl⟩⟩
   | false=>
    have bF:M.check md=0:=by simpa using hc
    have Hc:=ae bF;clear bF;go_wp2
    go_ret2
    exact⟨G2,.inr ⟨by rw[He.out];exact Hc.out,m,hm,rfl,by rw[<-BS.out];exact M2,by rw[<-BS.out];exact hW⟩⟩
def gC(ts:List M.Tn):List Int:=(ts.filter fun t=>t.af==0).map M.cellsOf
theorem anM(ts:List M.Tn):(gC ts).length<=ts.length:=by
 unfold gC;rw[jb];exact List.length_filter_le _ _
def pM(md:M.Md):M.Md:=H.jE md
def pD(md:M.Md):H.Dr:=H.nL (pM md)
def pB(md:M.Md):List H.Bf:=H.fg (pD md).lv
def xO(w:World)(B p:Nat)(md:M.Md):Prop:=
 ∃m an cn ab cb,B<=p/\B<=m/\aj w p 104 #[.pointer (some ⟨m,0,none⟩),.int .i64 (H.fO (pM md)),.slice an (pD md).aW.length cn,.slice ab (pB md).length cb] /\
  cN w m (pM md)/\aZ w B (.slice an (pD md).aW.length cn) (pD md).aW/\mT w B (.slice ab (pB md).length cb) (pB md)/\lO md/\O.iP md
def Pl(w:World)(p:Nat)(md:M.Md):Prop:=xO w 0 p md
theorem xO.Z{w w':World}{B p:Nat}{md:M.Md}(h:xO w B p md)(hg:w.grownBy w' none):xO w' B p md:=by
 obtain⟨m,an,cn,ab,cb,b1,b2,h1,h2,h3,h4,h5,h6⟩:=h;exact⟨m,an,cn,ab,cb,b1,b2,h1.kept hg (by simp),h2.Z hg,h3.Z hg,eY h4 hg,h5,h6⟩
theorem Pl.Z{w w':World}{p:Nat}{md:M.Md}(h:Pl w p md)(hg:w.grownBy w' none):Pl w' p md:=xO.Z h hg
theorem Pl.wf{w:World}{p:Nat}{md:M.Md}(h:Pl w p md):lO md:=by
 obtain⟨m,an,cn,ab,cb,b1,b2,h1,h2,h3,h4,h5,h6⟩:=h;exact h5
theorem FT{md:M.Md}(h:O.iP md):∃C,H.dH (pM md) C:=by
 obtain⟨C,S⟩:=H.Nx h;exact⟨C,S.jE⟩
theorem anN{s:ByteArray}(h:M.fh s=0):O.iP (M.gD s).1:=by
 have hp:M.nY s=0:=by
  have h':=h;unfold M.fh at h';by_cases c:M.nY s≠0
  ·rw[ay c] at h';exact h'
  ·simpa using c
 have hc:M.check (M.gD s).1=0:=by have h':=h;unfold M.fh at h';rw[ak (by rw[hp];decide)] at h';exact h'
 exact O.akt (M.aj7 s h) hc
theorem anO(s:ByteArray)(w:World)(hs:s.size<=9223372036854775807) :
  Calls prog 32 #[.string s] w fun e w'=>w.grownBy w' none/\((M.fh s≠0/\e=.returned (.tuple #[.pointer none,.int .i64 (M.fh s)])) \/
   (M.fh s=0/\∃q,w.heap.size<=q/\e=.returned (.tuple #[.pointer (some ⟨q,0,none⟩),.int .i64 0])/\xO w' w.heap.size q (M.gD s).1)):=by
 go_enter func32,ntmps32;go_wp2_with fail;refine(anL s w hs).mono ?_;rintro e w1⟨aH,⟨hr,rfl⟩|⟨hr,m,hm,rfl,hM,hW⟩⟩
 ·have rY:(M.fh s !=0)=true:=by simpa using hr
  have Hr:=ae hr;clear hr;go_wp2
  go_ret2
  exact⟨aH,.inl ⟨Hr.out,rfl⟩⟩
 ·have Hr:=ae hr
  have H1:=ae (anN hr);clear hr;obtain⟨md,BS⟩:∃md,Hid ((M.gD s).1=md):=⟨_,rfl⟩;rw[BS.out] at hM hW H1;obtain⟨C,S⟩:=H.Nx H1.out;have HS:=ae S.jE;have HC:=ae (anm m md C w1 hM S);have HW:=ae hW;have FL:w.heap.size<=m:=hm;have hmw:m<w1.heap.size:=by obtain⟨_,_,_,_,_,_,hB,-⟩:=hM;exact hB.lt
  have dN:=ae aH;clear hM hW S aH;go_wp2_with fail;refine HC.out.mono ?_;rintro e w2⟨rfl,FQ,ff⟩;have ZP:cN w2 m (pM md):=FQ;have NM:=ae ZP;have CE:Hid (H.dH (pM md) C):=HS.out;have dU:=ae (RP dN.out ff hm);have qi:=ff.size;clear HC FQ ZP ff;go_wp2_with fail;refine(anr m (pM md) C w2 NM.out CE.out).mono ?_;rintro e w3⟨⟨d,rfl,hd,ZQ⟩,aU⟩;have anP:pP w3 w2.heap.size d (H.fO (pM md)) (pD md):=ZQ;obtain⟨an,cn,al,cl,kU,hN,hL⟩:=anP;have p2:w3.cell? ⟨d,2,none⟩=some (.slice al (pD md).lv.length cl):=kU.cell 2;have tx:=ae kU;have HN:=ae hN;have HL:=ae hL;have fR:=ae (aC dU.out aU);have NO:=ae (NM.out.Z aU);have Pn:=H.Az CE.out;have hlv:(pD md).lv.length<=100:=by
   have e1:(pD md).lv.length=H.fO (pM md)+(pM md).ag.length:=Pn.ll;have e2:=H.Nb (pM md);have e3:H.cy (pM md).au (pM md).au.length<=(pM md).au.length:=by unfold H.cy;exact jN (List.length_filter_le _ _) (by simp)
   have:=CE.out.nt;have:=CE.out.no;omega
  have anR:=ae (Pn.lr CE.out);have JP:=fR.out.size;have anS:=aU.size;clear kU hN hL ZQ aU Pn;go_wp2_with fail;refine(anH w2.heap.size al (pD md).lv.length cl (pD md).lv w3 HL.out anR.out hlv).mono ?_;rintro e w4⟨⟨g4,rfl,kC⟩,bm⟩;have iS:Hid (mT w4 w3.heap.size (.slice (some ⟨g4,0,none⟩) (pB md).length (pB md).length) (pB md)):=kC;have NY:=tx.out.kept bm (by simp);have p0':w4.cell? ⟨d,0,none⟩=some (.int .i64 (H.fO (pM md))):=NY.cell 0;have p1':w4.cell? ⟨d,1,none⟩=some (.slice an (pD md).aW.length cn):=NY.cell 1;have hd4:=NY.lt;have NF:=ae (HN.out.Z bm);have fC:=ae (aC fR.out bm);have Cx:=ae (NO.out.Z bm);have qS:=bm.size;have Heb:Hid ((H.fg (pD md).lv).length=(pB md).length):=rfl;rw[Heb.out];clear kC NY bm p2 tx HN HL NO fR;have bq:=aC (aQ w4 (.cells #[.pointer (some ⟨m,0,none⟩),.int .i64 (H.fO (pM md)),.slice an (pD md).aW.length cn,.slice (some ⟨g4,0,none⟩) (pB md).length (pB md).length] 104) none) (gE _ none);have Es:Hid (xO (w4.alloc (.cells #[.pointer (some ⟨m,0,none⟩),.int .i64 (H.fO (pM md)),.slice an (pD md).aW.length cn,.slice (some ⟨g4,0,none⟩) (pB md).length (pB md).length] 104)).drew w.heap.size w4.heap.size md):=
   ⟨m,an,cn,some ⟨g4,0,none⟩,(pB md).length,by omega,FL,(aj.bA w4 104 _).drew,Cx.out.Z bq,(NF.out.mono (by have:=dU.out.size;omega)).Z bq,eY (nC iS.out (by omega)) bq,HW.out,H1.out⟩
  have rj:=ae (aC fC.out bq);have Mg:w.heap.size<=w4.heap.size:=by omega
  clear bq Cx NF iS fC;go_wp2
  go_region
  all_goals
   go_wp2
   go_ret2
   exact⟨rj.out,.inr ⟨Hr.out,w4.heap.size,Mg,rfl,by rw[BS.out];exact Es.out⟩⟩
def xP(a n:Int):Int:=(if a<0 then -(a+1) else a)%n
theorem anU(w:World)(vs:List Int):(convert 41 9 (.slice (some ⟨w.heap.size,0,none⟩) vs.length vs.length)).run prog (w.alloc (.cells (vs.map (fun v=>Value.int .u8 (v%256))).toArray 5)) =
  .ok (.string ⟨(vs.map b8).toArray⟩) (w.alloc (.cells (vs.map (fun v=>Value.int .u8 (v%256))).toArray 5)):=by
 have h:=run_convert_bytes_back (P:=prog) (w.alloc (.cells (vs.map (fun v=>Value.int .u8 (v%256))).toArray 5)) 41 9 5 ⟨w.heap.size,0,none⟩ vs.length (vs.map b8) underlying41 underlying5 underlying9 (by
  intro j hj;rw[vy,(aj.bA w 5 _).cell j];simp at hj;simp[hj,aj5])
 simpa using h
theorem anV{xs ys:List Int}{k:Nat}{x y:Int}(hx:xs[k]?=some x)(hy:ys[k]?=some y)(h:x≠y):decide (xs=ys)=false:=by
 rw[eE];intro e;rw[e,hy] at hx;injection hx with hx;exact h hx.symm
theorem anW{xs ys:List Int}(hl:xs.length=ys.length)(h:∀j,j<xs.length->xs[j]?=ys[j]?):decide (xs=ys)=true:=by
 rw[eG]
 apply nM
 intro j;rcases cE j xs.length with h' | h'
 ·exact h j h'
 ·rw[db h',db (by omega)]
end Go.Proofs.YtcnhfffgbamonaaGreat
