import Derived.Test.YtcnhfffgbamonabGreatZ17
set_option maxRecDepth 100000
set_option maxHeartbeats 6400000
namespace Go.Proofs.YtcnhfffgbamonabGreat
open Go.Proofs.Tryz
open Go.RowKit
theorem amj(m:Nat)(md:M.Md)(C:List (List Int))(w:World)(h:cN w m md)(S:H.dH md C) :
  Calls prog 31 #[.pointer (some ⟨m,0,none⟩)] w fun e w'=>e=.returned (.tuple #[])/\cN w' m (H.jD md)/\Below m w w':=by
 have S1:=S.iP;have S2:=S1.drop;have S3:=S2.oS;have HS:=ae S;have HM:=ae h;have b1:=ae (show(H.iP md).ag.length<=255/\(H.iP md).aJ.length<=255 from ⟨by have:=S1.no;omega,S1.nu⟩);have b2:=ae (show(H.drop (H.iP md)).ag.length<=255/\(H.drop (H.iP md)).aJ.length<=255 from ⟨by have:=S2.no;omega,S2.nu⟩);have b3:=ae (show(H.oS (H.drop (H.iP md))).au.length<=255/\(H.oS (H.drop (H.iP md))).ag.length<=255/\(H.oS (H.drop (H.iP md))).aJ.length<=255 from ⟨by have:=S3.nt;omega,by have:=S3.no;omega,S3.nu⟩);have HE:Hid (H.jD md=H.mL (H.oS (H.drop (H.iP md)))):=rfl;clear S S1 S2 S3 h;go_enter func31,ntmps31;go_wp2_with fail;refine(ale m md C w HM.out HS.out).mono ?_;rintro e w1⟨rfl,mF,kd⟩;have nG:=ae mF;have nj:=ae kd;clear mF kd;go_wp2_with fail;refine(alG m _ w1 nG.out b1.out.1 b1.out.2).mono ?_;rintro e w2⟨rfl,Fo,fA⟩;have Ng:=ae Fo;have iV:=ae (uk nj.out fA);clear Fo fA;go_wp2_with fail;refine(alY m _ w2 Ng.out b2.out.1 b2.out.2).mono ?_;rintro e w3⟨rfl,vd,iA⟩;have Nh:=ae vd;have fZ:=ae (uk iV.out iA);clear vd iA;go_wp2_with fail;refine(alJ m _ w3 Nh.out b3.out.1 b3.out.2.1 b3.out.2.2).mono ?_;rintro e w4⟨rfl,G6,ku⟩;have Ci:=ae G6;have jr:=ae (uk fZ.out ku);clear G6 ku;go_wp2;go_end0;exact⟨rfl,by rw[HE.out];exact Ci.out,jr.out⟩
theorem YH{md:M.Md}{C:List (List Int)}(S:H.dH md C){n:Nat}{t:M.Tn}(h:md.au[n]?=some t):dW t:=by
 have hl:=M.bP h;have e:=Lw h;have d:=S.kN n (by omega) (by omega);have k:=S.BS n (by omega) (by omega);rw[e] at d k;exact⟨k.1,k.2,by have:=d.h0;omega,d.h1,by have:=d.w0;omega,d.w1,by have:=d.c0;omega,d.c1,d.z0,d.z1⟩
theorem pG.cO{w:World}{B d g1 cn RF:Nat}{al:Option Addr}{I:Int}{x:H.Dr}{cl:Nat}(kR:aj w d 78 #[.int .i64 I,.slice (some ⟨g1,0,none⟩) x.aW.length cn,.slice al RF cl])(hn:RF=x.lv.length)(hN:aZ w B (.slice (some ⟨g1,0,none⟩) x.aW.length cn) x.aW)(hL:pC w B (.slice al RF cl) x.lv)
  (q:Nat) (v:Int) (h0:0<x.aW.length):pG (w.setCell ⟨g1,q,none⟩ (.int .i64 v)) B d I ⟨x.aW.set q v,x.lv⟩/\B<=g1:=by
 subst hn;obtain⟨ry,Yn,e1,-,Yo,kd,-⟩:=xp hN h0;simp only[j8,oI,and_true] at e1;subst e1;have eF:=M6 kd kR (by decide);have iB:=bD w g1 q (.int .i64 v);refine⟨⟨some ⟨g1,0,none⟩,cn,al,cl,?_,?_,pE hL kd (by decide) iB⟩,Yo⟩
 ·rw[kG];exact kR.kept iB (by intro e;injection e with e;exact eF e.symm)
 ·have e:=DW hN q (.int .i64 v)
  unfold aZ;rw[List.map_set,kG];exact e
theorem amk{ts:List M.Tn}{k:Nat}{t:M.Tn}(h:ts[k]?=some t)(h0:t.af=0):H.fM ts (k+1)=H.iU ⟨(H.fM ts k).aW.set k (-1),(H.fM ts k).lv⟩ k (M.cellsOf t) 0:=by
 rw[H.fM,h];simp only;rw[ay h0]
theorem aml{ts:List M.Tn}{k:Nat}{t:M.Tn}(h:ts[k]?=some t)(h0:t.af≠0):H.fM ts (k+1)=⟨(H.fM ts k).aW.set k (-1),(H.fM ts k).lv⟩:=by
 rw[H.fM,h];simp only;rw[ak h0]
theorem amm{m:M.Md}{d:H.Dr}{k:Nat}{o:M.Op}(h:m.ag[k]?=some o):H.kB m d (k+1)=H.iU ((H.cM o).foldl (H.g6 ((k:Int)+1)) (H.kB m d k)) o.to (M.cellsOf (M.aq m o.to)) ((k:Int)+1):=by
 rw[H.kB,h]
theorem YI{l:List Int}{j:Nat}{n time:Int}{d:H.Dr}(h:l[j]?=some n):(l.take (j+1)).foldl (H.g6 time) d=H.g6 time ((l.take j).foldl (H.g6 time) d) n:=by
 rw[H.kj h,List.foldl_append];rfl
theorem amn(n:Nat):(madeCells #[Value.int .i64 0] n).toList=(List.replicate n (0:Int)).map (Value.int .i64):=by
 apply nF
 intro i;by_cases h:i<n
 ·rw[dY,tV,ay h];simp[madeCells,h,Nat.mod_one]
 ·rw[cX,cX]
  ·simp;omega
  ·simp[madeCells];omega
theorem amo(m:Nat)(md:M.Md)(C:List (List Int))(w:World)(h:cN w m md)(S:H.dH md C) :
  Calls prog 32 #[.pointer (some ⟨m,0,none⟩)] w fun e w'=>(∃d,e=.returned (.pointer (some ⟨d,0,none⟩))/\w.heap.size<=d/\pG w' w.heap.size d (H.fN md) (H.nE md))/\w.grownBy w' none:=by
 obtain⟨j0,hj,vL,p9,vM⟩:=info_parts Tryz.oH;have iq:=S.nt;have j9:=S.no;have By:=S.nu;have HS:=ae S;have HM:=ae h;have vJ:=ae (fun k hk=>H.xn md.au k hk);have sZ:=ae (fun k hk=>H.BY S (H.xn md.au md.au.length (bj _)).ag k hk);obtain⟨a1,c1,a2,c2,a3,c3,hB,hT,hO,hU⟩:=h;have q0:w.cell? ⟨m,0,none⟩=some (.slice a1 md.au.length c1):=hB.cell 0;have q1:w.cell? ⟨m,1,none⟩=some (.slice a2 md.ag.length c2):=hB.cell 1;have q2:w.cell? ⟨m,2,none⟩=some (.slice a3 md.aJ.length c3):=hB.cell 2;have Q0:=ae q0;have Q1:=ae q1;have Q2:=ae q2;have pX:=hB.lt;have HT:=ae hT;have HO:=ae hO;have HU:=ae hU;clear hB hT hO hU S q1 q2;go_enter func32,ntmps32;go_wp2_with (at_make;refine pU _ rfl _ _ 32 rfl w.heap.size 3 j0 (.int .i64 0) 1 underlying32 hj vL p9 _ _ _ _ md.au.length rfl rfl rfl rfl ?c1 ?c2 ?c3 ?_)
 case c1=>rw[vM];omega
 case c2=>unfold maxLen;omega
 case c3=>exact bj _
 intro w2 cB aM;have dC:aZ w2 w.heap.size (.slice (some ⟨w.heap.size,0,none⟩) md.au.length md.au.length) (List.replicate md.au.length 0):=by
  unfold aZ;rw[<-amn,vF];exact cB
 have DU:w.heap.size<=w2.heap.size:=aM.size;have Cn:=aQ w2 (.cells #[.int .i64 0,.slice (some ⟨w.heap.size,0,none⟩) md.au.length md.au.length,.slice none 0 0] 78) none;have YJ:Hid (pG (w2.alloc (.cells #[.int .i64 0,.slice (some ⟨w.heap.size,0,none⟩) md.au.length md.au.length,.slice none 0 0] 78)) w.heap.size w2.heap.size 0 (H.fM md.au 0)):=
  ⟨some ⟨w.heap.size,0,none⟩,md.au.length,none,0,by
   have e:=aj.bB w2 78 #[.int .i64 0,.slice (some ⟨w.heap.size,0,none⟩) md.au.length md.au.length,.slice none 0 0];show aj _ _ _ #[.int .i64 0,.slice _ (List.replicate md.au.length (0:Int)).length _,.slice none 0 0];rw[vF];exact e,by
   show aZ _ _ (.slice _ (List.replicate md.au.length (0:Int)).length _) (List.replicate md.au.length 0);rw[vF];exact dC.Z Cn,kq _ _ _ _⟩
 have rM:=ae (aC aM Cn);have Ay:(w2.alloc (.cells #[.int .i64 0,.slice (some ⟨w.heap.size,0,none⟩) md.au.length md.au.length,.slice none 0 0] 78)).cell? ⟨m,0,none⟩=some (.slice a1 md.au.length c1):=aG rM.out q0;have amp:w2.cell? ⟨m,0,none⟩=some (.slice a1 md.au.length c1):=aG aM q0;have Jd:m<w2.heap.size:=by omega
 clear cB dC Cn aM q0;go_wp2;clear Ay amp;go_loopw[26] (fun i wr=>∃k:Nat,k<=md.au.length/\i=.int .i64 k/\pG wr w.heap.size w2.heap.size 0 (H.fM md.au k)/\w.grownBy wr none) (fun i _=>md.au.length-(intOf i).toNat)
 case atStart=>exact⟨0,bK _,rfl,YJ.out,rM.out⟩
 case round=>
  obtain⟨k,hk,rfl,xv,aF⟩:=hrel;have bH:=ae aF;have D:=vJ.out k hk;have xw:H.cy md.au k<=k:=by unfold H.cy;exact jK (List.length_filter_le _ _) (by simp;omega)
  have sX:(H.fM md.au k).aW.length<=24:=by rw[D.ln];exact iq
  have Az:(H.fM md.au k).lv.length<=24:=by rw[D.ll];omega
  have Ni:=ae D.ln;clear D;by_cases aK:k<md.au.length
  ·obtain⟨t,ht⟩:∃t,md.au[k]?=some t:=⟨_,aT aK⟩
   obtain⟨g,ao,m',cp,rfl,-,-,-,d0,d1,d2,d3,d4,d5⟩:=(HT.out.Z aF).get k t ht;have gN:g<wr.heap.size:=pY wr _ d0;have wt:=HS.out |> fun S=>YH S ht;have vN:=ae wt;have YK:=ae (fun h0=>amk ht h0);have Jg:=ae (fun h0=>aml ht h0);obtain⟨x,Hx⟩:∃x,Hid (H.fM md.au k=x):=⟨_,rfl⟩;rw[Hx.out] at xv YK Jg sX Az Ni;obtain⟨an,cn,al,cl,kR,hN,hL⟩:=xv;obtain⟨b,hb⟩:∃b,x.aW[k]?=some b:=⟨_,aT (by rw[Ni.out];exact aK)⟩;obtain⟨g1,rfl,alu,aH,e1⟩:=hN.get k b hb;have qH:k<x.aW.length:=by rw[Ni.out];exact aK
   have p1:wr.cell? ⟨w2.heap.size,1,none⟩=some (.slice (some ⟨g1,0,none⟩) x.aW.length cn):=kR.cell 1;have yD:=kR.lt;have HP:=ae (pG.cO kR rfl hN hL k (-1) (by omega)).1;have RG:wr.frozen? ⟨g1,k,none⟩=false:=by
    obtain⟨ry,Yn,Nj,-,-,kd,-⟩:=xp hN (by omega);simp only[j8,oI,and_true] at Nj;subst Nj;exact kd.free k
   have iB:=dF aF (bD wr g1 k (.int .i64 (-1))) aH;have bC:=aQ (wr.setCell ⟨g1,k,none⟩ (.int .i64 (-1))) (.cells (bg t (.slice ao m' cp)) 106) none;have YL:=ae (HP.out.Z bC);have qS:=ae (aC iB bC);have amq:w.heap.size<=(wr.setCell ⟨g1,k,none⟩ (.int .i64 (-1))).heap.size:=iB.size;clear kR hN hL hb iB bC aF
   cases rE:(t.af==0) with
   | true=>
    have HI:=ae (YK.out (by simpa using rE));have HC:=ae (Ym w.heap.size w2.heap.size 0 ⟨x.aW.set k (-1),x.lv⟩ k 0 t ao m' cp _ YL.out (by simp;omega) (by show x.lv.length<=1000;omega) (by simp at amq ⊢;omega) vN.out);clear ht;go_wp2_with fail;refine HC.out.mono ?_;rintro e w4⟨rfl,YM,ku⟩;have Nk:=ae YM;have fB:=ae (Rf qS.out ku (by omega));clear YM ku HC e1 p1 d0 d1 d2 d3 d4 d5 RG;go_wp2;go_roundw
    case rel=>exact⟨k+1,by omega,by go_num,by rw[HI.out];exact Nk.out,fB.out⟩
    case measure=>simp[intOf];omega
   | false=>
    have HI:=ae (Jg.out (by simpa using rE));clear ht;go_wp2;go_roundw
    case rel=>exact⟨k+1,by omega,by go_num,by rw[HI.out];exact YL.out,qS.out⟩
    case measure=>simp[intOf];omega
  ·obtain rfl:k=md.au.length:=by omega
   have HI:Hid (H.fN md=(H.fM md.au md.au.length).lv.length):=rfl;have RH:Hid (H.nE md=md.aJ.foldl (H.g6 ((md.ag.length:Int)+1)) (H.kB md (H.fM md.au md.au.length) md.ag.length)):=rfl;obtain⟨x,Hx⟩:∃x,Hid (H.fM md.au md.au.length=x):=⟨_,rfl⟩;rw[Hx.out] at xv HI RH sZ sX Az;obtain⟨an,cn,al,cl,kR,hN,hL⟩:=xv;have p2:wr.cell? ⟨w2.heap.size,2,none⟩=some (.slice al x.lv.length cl):=kR.cell 2;have p0:wr.cell? ⟨w2.heap.size,0,none⟩=some (.int .i64 0):=kR.cell 0;have fp:=kR.free 0;have iB:=bD wr w2.heap.size 0 (.int .i64 x.lv.length);have YN:Hid (pG (wr.setCell ⟨w2.heap.size,0,none⟩ (.int .i64 x.lv.length)) w.heap.size w2.heap.size x.lv.length x):=⟨an,cn,al,cl,kR.set 0 _,pE hN kR (by decide) iB,pE hL kR (by decide) iB⟩;have D3:=ae (dF aF iB DU);have r1:=aG aF Q1.out;have hmw:¬m=w2.heap.size:=by omega
   clear kR hN hL iB vJ HT rM YJ Ni xw aF bH;go_wp2;clear p0 p2 fp r1;go_loopw[58] (fun i wq=>∃k:Nat,k<=md.ag.length/\i=.int .i64 k/\pG wq w.heap.size w2.heap.size x.lv.length (H.kB md x k)/\w.grownBy wq none) (fun i _=>md.ag.length-(intOf i).toNat)
   case atStart=>exact⟨0,bK _,rfl,YN.out,D3.out⟩
   case round=>
    clear YN D3;obtain⟨k,hk,rfl,xv,aF⟩:=hrel;have D:=sZ.out k hk;have b1:(H.kB md x k).aW.length<=24:=by rw[D.ln];exact iq
    have b2:(H.kB md x k).lv.length<=40:=by rw[D.ll];omega
    clear D;by_cases aK:k<md.ag.length
    ·obtain⟨o,ho⟩:∃o,md.ag[k]?=some o:=⟨_,aT aK⟩
     obtain⟨g,ao,p,cp,rfl,gN,-,-,hR⟩:=(HO.out.Z aF).get k o ho;have eX:=ae (amm (d:=x) ho);have HL:=ae (IK o);have vN:=ae (show dW (M.aq md o.to) from by
      obtain⟨t0,t1,-⟩:=HS.out.to o (bV ho);exact YH HS.out (O.kM t0 t1).1)
     obtain⟨y,Hy⟩:∃y,Hid (H.kB md x k=y):=⟨_,rfl⟩;rw[Hy.out] at xv eX b1 b2;have lp:=ae (aj.bB wr 93 (aO o (.slice ao p cp)));have dN:=ae (aQ wr (.cells (aO o (.slice ao p cp)) 93) none);have Jh:=ae xv;have bH:=ae aF;clear xv aF ho;go_wp2_with (first|(refine wpList_load_mid rfl 93 _ rfl g (k*16) rfl (aO o (.slice ao p cp)).toList _ hR underlying93 rfl Tryz.db ?_)|(refine aaY rfl 93 _ _ rfl wr.heap.size (aO o (.slice ao p cp)) rfl rfl 93 (aR 0 0 0 0 0 0 0 0 false (.slice none 0 0) 0 0 0 0 0 0) (aj.bB wr 93 _) Tryz.db rfl (nY ..) ?_;rw[World.setRow_alloc_new];generalize wr.alloc (.cells (aO o (.slice ao p cp)) 93)=w3 at *)|(refine dj rfl 93 _ rfl wr.heap.size rfl 93 (aO o (.slice ao p cp)) (0,0) _ lp.out underlying93 rfl Tryz.db ?_));refine(MS o ao p cp _).mono ?_;rintro e w4⟨⟨g4,rfl,lO⟩,bm⟩;have D5:=aC dN.out bm;have Nk:=ae (Jh.out.Z D5);have fB:=ae (aC bH.out D5);have jr:=ae (lp.out.kept bm (by simp));have kl:=ae lO;obtain⟨ob,D6⟩:∃ob,Hid (wr.heap.size=ob):=⟨_,rfl⟩;rw[D6.out] at jr ⊢;obtain⟨L,HLe⟩:∃L,Hid (H.cM o=L):=⟨_,rfl⟩;rw[HLe.out] at kl HL eX ⊢;have hL:=HL.out;clear bm D5 lO hR lp dN Jh;go_wp2;go_loopw[66] (fun i wq=>∃j:Nat,j<=L.length/\i=.int .i64 j/\pG wq w.heap.size w2.heap.size x.lv.length ((L.take j).foldl (H.g6 ((k:Int)+1)) y)/\aZ wq w3.heap.size (.slice (some ⟨g4,0,none⟩) L.length L.length) L/\aj wq ob 93 (aO o (.slice ao p cp))/\w.grownBy wq none) (fun i _=>L.length-(intOf i).toNat)
     case atStart=>exact⟨0,bK _,rfl,Nk.out,kl.out,jr.out,fB.out⟩
     case round=>
      clear Nk kl jr fB;obtain⟨j,rA,rfl,rN,Nl,eM,bO⟩:=hrel;have Ex:=H.DL ((k:Int)+1) (L.take j) y;have e1:((L.take j).foldl (H.g6 ((k:Int)+1)) y).aW.length<=24:=by rw[Ex.aW];exact b1
      have e2:((L.take j).foldl (H.g6 ((k:Int)+1)) y).lv.length<=40:=by rw[Ex.len];exact b2
      clear Ex;by_cases Aq:j<L.length
      ·obtain⟨n,hn⟩:∃n,L[j]?=some n:=⟨_,aT Aq⟩
       obtain⟨g',fQ,-,-,d0⟩:=Nl.get j n hn;simp only[j8,oI,and_true] at fQ;subst fQ;have Ji:=ae (YI (time:=(k:Int)+1) (d:=y) hn);obtain⟨z,Hz⟩:∃z,Hid ((L.take j).foldl (H.g6 ((k:Int)+1)) y=z):=⟨_,rfl⟩;rw[Hz.out] at rN Ji e1 e2;have HC:=ae (XY w.heap.size w2.heap.size x.lv.length z n ((k:Int)+1) wr rN (by omega) (by omega));have HIj:=ae Nl;have RI:=ae eM;have cT:=ae bO;clear hn Nl eM bO rN;go_wp2_with fail;refine HC.out.mono ?_;rintro e w6⟨rfl,Jj,qh⟩;have RJ:=ae Jj;have Jk:=ae (qh.XX HIj.out);have At:=ae (qh.gF RI.out (by decide));have kD:=ae (qh.gr cT.out (bj _));clear Jj qh HC d0;go_wp2;go_roundw
       case rel=>exact⟨j+1,by omega,by go_num,by rw[Ji.out];exact RJ.out,Jk.out,At.out,kD.out⟩
       case measure=>simp[intOf];omega
      ·obtain rfl:j=L.length:=by omega
       rw[jo] at rN e1 e2;obtain⟨z,Hz⟩:∃z,Hid (L.foldl (H.g6 ((k:Int)+1)) y=z):=⟨_,rfl⟩;rw[Hz.out] at rN e1 e2 eX;have Nm:=ae rN;have RI:=ae eM;have cT:=ae bO;have k5:wr.cell? ⟨ob,5,none⟩=some (.int .i64 o.to):=eM.cell 5;clear Nl rN eM bO;go_wp2_with fail;refine(iS m md o.to wr (HM.out.Z cT.out) (by omega)).mono ?_;rintro e w7⟨t,ht,⟨ta,tp,tc,rfl⟩,dJ⟩;have RK:=aC dJ (aQ w7 (.cells #[.int .i64 t.af,.int .i64 t.h,.int .i64 t.w,.int .i64 t.c,.int .i64 t.zero,.slice ta tp tc] 106) none);have HD7:=ae (Nm.out.Z RK);have lk:=ae (aC cT.out RK);have Nn:w7.cell? ⟨ob,5,none⟩=some (.int .i64 o.to):=aG dJ k5;have YO:=pY w7 _ Nn;have awL:ob<w7.heap.size:=YO;have hw7:w.heap.size<=w7.heap.size:=(aC cT.out dJ).size;rw[ht.out] at eX vN;have HC:=ae (Ym w.heap.size w2.heap.size x.lv.length z o.to ((k:Int)+1) t ta tp tc _ HD7.out (by omega) (by omega) (by simp;omega) vN.out);clear dJ RK k5 YO Nm RI;go_wp2_with fail;refine HC.out.mono ?_;rintro e w8⟨rfl,YP,Fp⟩;have HD8:=ae YP;have fJ:=ae (Rf lk.out Fp (by omega));clear YP Fp HC Nn;go_wp2;go_roundw
       case rel=>exact⟨k+1,by omega,by go_num,by rw[eX.out];exact HD8.out,fJ.out⟩
       case measure=>simp[intOf];omega
    ·obtain rfl:k=md.ag.length:=by omega
     have r2:=aG aF Q2.out;obtain⟨y,Hy⟩:∃y,Hid (H.kB md x md.ag.length=y):=⟨_,rfl⟩;rw[Hy.out] at xv RH b1 b2;have Jh:=ae xv;have bH:=ae aF;clear xv aF;go_wp2;clear r2;go_loopw[93] (fun i wq=>∃j:Nat,j<=md.aJ.length/\i=.int .i64 j/\pG wq w.heap.size w2.heap.size x.lv.length ((md.aJ.take j).foldl (H.g6 ((md.ag.length:Int)+1)) y)/\w.grownBy wq none) (fun i _=>md.aJ.length-(intOf i).toNat)
     case atStart=>exact⟨0,bK _,rfl,Jh.out,bH.out⟩
     case round=>
      clear Jh bH;obtain⟨j,rA,rfl,rN,bO⟩:=hrel;have Ex:=H.DL ((md.ag.length:Int)+1) (md.aJ.take j) y;have e1:((md.aJ.take j).foldl (H.g6 ((md.ag.length:Int)+1)) y).aW.length<=24:=by rw[Ex.aW];exact b1
      have e2:((md.aJ.take j).foldl (H.g6 ((md.ag.length:Int)+1)) y).lv.length<=40:=by rw[Ex.len];exact b2
      clear Ex;by_cases Aq:j<md.aJ.length
      ·obtain⟨n,hn⟩:∃n,md.aJ[j]?=some n:=⟨_,aT Aq⟩
       obtain⟨g',rfl,-,-,d0⟩:=(HU.out.Z bO).get j n hn;have Ji:=ae (YI (time:=(md.ag.length:Int)+1) (d:=y) hn);obtain⟨z,Hz⟩:∃z,Hid ((md.aJ.take j).foldl (H.g6 ((md.ag.length:Int)+1)) y=z):=⟨_,rfl⟩;rw[Hz.out] at rN Ji e1 e2;have HC:=ae (XY w.heap.size w2.heap.size x.lv.length z n ((md.ag.length:Int)+1) wr rN (by omega) (by omega));have r1:=aG bO Q1.out;have cT:=ae bO;clear hn bO rN;go_wp2_with fail;refine HC.out.mono ?_;rintro e w6⟨rfl,Jj,qh⟩;have RJ:=ae Jj;have kD:=ae (qh.gr cT.out (bj _));clear Jj qh HC d0 r1;go_wp2;go_roundw
       case rel=>exact⟨j+1,by omega,by go_num,by rw[Ji.out];exact RJ.out,kD.out⟩
       case measure=>simp[intOf];omega
      ·obtain rfl:j=md.aJ.length:=by omega
       rw[jo] at rN;rw[<-RH.out] at rN;have Nm:=ae rN;have cT:=ae bO;clear rN bO e1 e2;go_wp2;go_ret;exact⟨⟨w2.heap.size,rfl,DU,by rw[HI.out];exact Nm.out⟩,cT.out⟩
theorem No(x y:H.dE)(b:Bool)(w:World)(h:H.mN x y=b):Calls prog 137 #[.agg #[.int .i64 x.f,.int .i64 x.t,.int .i64 x.c],.agg #[.int .i64 y.f,.int .i64 y.t,.int .i64 y.c]] w fun e w'=>e=.returned (.bool b)/\w.grownBy w' none:=by
 subst h;exact aj3 x y w
theorem amw{lv:List H.dE}{ld:List H.Bf}{l:H.dE}{p:Int}{k:Nat}{x:H.dE}{b:H.Bf}(hx:lv[k]?=some x)(hb:ld[k]?=some b)(h:H.Af lv ld l p k=true)(hc:H.rI x b l p=false):H.Af lv ld l p (k+1)=true:=by
 refine H.Ix.mpr fun i hi=>?_;rcases(show i<k\/i=k by omega) with h' | rfl
 ·exact H.Ix.mp h i h'
 ·rw[getD_some hx,getD_some hb];exact hc
theorem amx{lv:List H.dE}{ld:List H.Bf}{l:H.dE}{p:Int}{k n:Nat}{x:H.dE}{b:H.Bf}(hx:lv[k]?=some x)(hb:ld[k]?=some b)(hk:k<n)(hc:H.rI x b l p=true):H.Af lv ld l p n=false:=by
 cases e:H.Af lv ld l p n with
 | false=>rfl
 | true=>
  have:=H.Ix.mp e k hk;rw[getD_some hx,getD_some hb,hc] at this;exact aN this (by decide)
theorem YQ(B1 B2:Nat)(a1 a2:Option Addr)(n1 c1 n2 c2:Nat)(lv:List H.dE)(ld:List H.Bf)(l:H.dE)(p:Int)(w:World)(h1:pC w B1 (.slice a1 n1 c1) lv)(h2:mP w B2 (.slice a2 n2 c2) ld)(hl:lv.length=ld.length)(hn:ld.length<=1000)(hb:DO ld)
  (EW:0<=p) (eV:p<=2000000) (vc:0<=l.c) (AA:l.c<=1000000) :
  Calls prog 99 #[.slice a1 n1 c1,.slice a2 n2 c2,.agg #[.int .i64 l.f,.int .i64 l.t,.int .i64 l.c],.int .i64 p] w fun e w'=>e=.returned (.bool (H.ud lv ld l p))/\w.grownBy w' none:=by
 obtain rfl:=h1.len;obtain rfl:=h2.len;have Hb:=ae hb;have HF:Hid (H.ud lv ld l p=H.Af lv ld l p ld.length):=by unfold Hid H.ud;rw[hl,Nat.min_self]
 have sX:lv.length<=ld.length:=by omega
 have Az:ld.length<=lv.length:=by omega
 clear hl;have H1:=ae h1;have H2:=ae h2;have N0:=ae (aj.bB w 114 #[.int .i64 l.f,.int .i64 l.t,.int .i64 l.c]);have G0:=ae (aQ w (.cells #[.int .i64 l.f,.int .i64 l.t,.int .i64 l.c] 114) none);clear hb h1 h2;go_enter func99,ntmps99;go_wp2;go_loopw[9] (fun i wr=>∃k:Nat,k<=ld.length/\i=.int .i64 k/\H.Af lv ld l p k=true/\aj wr w.heap.size 114 #[.int .i64 l.f,.int .i64 l.t,.int .i64 l.c]/\w.grownBy wr none) (fun i _=>ld.length-(intOf i).toNat)
 case atStart=>exact⟨0,bK _,rfl,rfl,N0.out,G0.out⟩
 case round=>
  obtain⟨k,hk,rfl,qT,bU,aF⟩:=hrel;have Jl:=ae qT;clear qT;by_cases aK:k<ld.length
  ·obtain⟨x,hx⟩:∃x,lv[k]?=some x:=⟨_,aT (by omega)⟩
   obtain⟨b,hb⟩:∃b,ld[k]?=some b:=⟨_,aT aK⟩;obtain⟨g1,rfl,-,d0,d1,d2⟩:=pC.get (eW H1.out aF) k x hx;obtain⟨g2,rfl,-,e0,e1⟩:=mP.get (eW H2.out aF) k b hb;obtain⟨b0,b1,b2,b3⟩:=Hb.out k b hb;have oq:=ae fun hc=>amx (n:=ld.length) (l:=l) (p:=p) hx hb aK hc;have fg:=ae fun hc=>amw (l:=l) (p:=p) hx hb Jl.out hc;have f0:wr.cell? ⟨w.heap.size,0,none⟩=some (.int .i64 l.f):=bU.cell 0;have f1:wr.cell? ⟨w.heap.size,1,none⟩=some (.int .i64 l.t):=bU.cell 1;have f2:wr.cell? ⟨w.heap.size,2,none⟩=some (.int .i64 l.c):=bU.cell 2;have eJ:=ae bU;have bH:=ae aF;clear hx hb bU aF;go_wp2;go_quiet (fail);obtain⟨wq,Aw⟩:∃wq,wq=wr.drewN nq:=⟨_,rfl⟩;rw[<-Aw];have iy:=ae (show wr.grownBy wq none by rw[Aw];exact bF _ _ _);clear Aw;have r0:=cell_regrown (aG iy.out d0);have r1:=cell_regrown (aG iy.out d1);have r2:=cell_regrown (aG iy.out d2);have r3:=cell_regrown (aG iy.out f0);have r4:=cell_regrown (aG iy.out f1);have r5:=cell_regrown (aG iy.out f2);have r6:=cell_regrown (aG iy.out e0);clear d0 d1 d2 e0 e1 f0 f1 f2
   cases hm:H.mN x l with
   | false=>
    have Hc:=ae (show H.rI x b l p=false by unfold H.rI;rw[hm];rfl);have Hm:=ae hm;clear hm;have HC:=ae (ID (w:=wq) fun W _=>(No x l false W Hm.out));go_wp2;refine wp_region_quiet_below (by kernel_rfl) (by kernel_rfl) ?_
    quiet_step (fail)
    quiet_step (fail)
    quiet_step (fail)
    quiet_step (fail)
    quiet_step (fail)
    quiet_step (exact HC.out _ _)
    go_big_quiet_step (fail)
    go_big_quiet_step (fail)
    go_big_quiet_step (fail)
    go_big_quiet_step (fail)
    go_big_quiet_step (fail)
    go_big_quiet_step (fail)
    go_big_quiet_step (fail)
    go_big_quiet_step (fail)
    go_big_quiet_step (fail)
    go_big_quiet_step (fail)
    go_big_quiet_step (fail)
    go_big_quiet_step (fail)
    go_big_quiet_step (fail)
    go_big_quiet_step (fail)
    go_big_quiet_step (fail)
    go_big_quiet_step (fail)
    go_big_quiet_step (fail)
    refine wpQuiet_nil ?_;intro _ rJ;obtain⟨⟨dq,ui⟩,Ah⟩:=rJ;subst Ah;have g7:=aC iy.out (Bn (below_regrown wq dq ui));have vO:=ae (eJ.out.kept g7 (by simp));have lk:=ae (aC bH.out g7);clear g7 r0 r1 r2 r3 r4 r5 r6 HC;generalize Go.Sort.grow (redrawn wq dq) ui=w7 at *;go_wp2;go_roundw
    case rel=>exact⟨k+1,by omega,by go_num,fg.out Hc.out,vO.out,lk.out⟩
    case measure=>simp[intOf];omega
   | true=>
    have Hm:=ae hm;by_cases h1:p<b.a+b.c
    ·have IU:decide (p<b.a+b.c)=true:=by simpa using h1
     by_cases h2:b.a<p+l.c
     ·have IV:decide (b.a<p+l.c)=true:=by simpa using h2
      have Hc:=ae (show H.rI x b l p=true by unfold H.rI;rw[hm,eG (show p<b.e from h1),eG h2];rfl);clear hm;have HC:=ae (ID (w:=wq) fun W _=>(No x l true W Hm.out));go_wp2;refine wp_region_quiet_below (by kernel_rfl) (by kernel_rfl) ?_
      quiet_step (fail)
      quiet_step (fail)
      quiet_step (fail)
      quiet_step (fail)
      quiet_step (fail)
      quiet_step (exact HC.out _ _)
      go_big_quiet_step (fail)
      go_big_quiet_step (fail)
      go_big_quiet_step (fail)
      go_big_quiet_step (fail)
      go_big_quiet_step (fail)
      go_big_quiet_step (fail)
      go_big_quiet_step (fail)
      go_big_quiet_step (fail)
      go_big_quiet_step (fail)
      go_big_quiet_step (fail)
      go_big_quiet_step (fail)
      go_big_quiet_step (fail)
      go_big_quiet_step (fail)
      go_big_quiet_step (fail)
      go_big_quiet_step (fail)
      go_big_quiet_step (fail)
      go_big_quiet_step (fail)
      refine wpQuiet_nil ?_;intro _ rJ;obtain⟨⟨dq,ui⟩,Ah⟩:=rJ;subst Ah;have g7:=aC iy.out (Bn (below_regrown wq dq ui));have vO:=ae (eJ.out.kept g7 (by simp));have lk:=ae (aC bH.out g7);clear g7 r0 r1 r2 r3 r4 r5 r6 HC;generalize Go.Sort.grow (redrawn wq dq) ui=w7 at *;go_wp2;go_ret;exact⟨bq (by rw[HF.out,oq.out Hc.out]),lk.out⟩
     ·have IV:decide (b.a<p+l.c)=false:=by simpa using h2
      have Hc:=ae (show H.rI x b l p=false by unfold H.rI;rw[eD h2,Bool.and_false]);clear hm;have HC:=ae (ID (w:=wq) fun W _=>(No x l true W Hm.out));go_wp2;refine wp_region_quiet_below (by kernel_rfl) (by kernel_rfl) ?_
      quiet_step (fail)
      quiet_step (fail)
      quiet_step (fail)
      quiet_step (fail)
      quiet_step (fail)
      quiet_step (exact HC.out _ _)
      go_big_quiet_step (fail)
      go_big_quiet_step (fail)
      go_big_quiet_step (fail)
      go_big_quiet_step (fail)
      go_big_quiet_step (fail)
      go_big_quiet_step (fail)
      go_big_quiet_step (fail)
      go_big_quiet_step (fail)
      go_big_quiet_step (fail)
      go_big_quiet_step (fail)
      go_big_quiet_step (fail)
      go_big_quiet_step (fail)
      go_big_quiet_step (fail)
      go_big_quiet_step (fail)
      go_big_quiet_step (fail)
      go_big_quiet_step (fail)
      go_big_quiet_step (fail)
      refine wpQuiet_nil ?_;intro _ rJ;obtain⟨⟨dq,ui⟩,Ah⟩:=rJ;subst Ah;have g7:=aC iy.out (Bn (below_regrown wq dq ui));have vO:=ae (eJ.out.kept g7 (by simp));have lk:=ae (aC bH.out g7);clear g7 r0 r1 r2 r3 r4 r5 r6 HC;generalize Go.Sort.grow (redrawn wq dq) ui=w7 at *;go_wp2;go_roundw
      case rel=>exact⟨k+1,by omega,by go_num,fg.out Hc.out,vO.out,lk.out⟩
      case measure=>simp[intOf];omega
    ·have IU:decide (p<b.a+b.c)=false:=by simpa using h1
     have Hc:=ae (show H.rI x b l p=false by unfold H.rI;rw[eD (show ¬p<b.e from h1),Bool.and_false,Bool.false_and]);clear hm;have HC:=ae (ID (w:=wq) fun W _=>(No x l true W Hm.out));go_wp2;refine wp_region_quiet_below (by kernel_rfl) (by kernel_rfl) ?_
     quiet_step (fail)
     quiet_step (fail)
     quiet_step (fail)
     quiet_step (fail)
     quiet_step (fail)
     quiet_step (exact HC.out _ _)
     go_big_quiet_step (fail)
     go_big_quiet_step (fail)
     go_big_quiet_step (fail)
     go_big_quiet_step (fail)
     go_big_quiet_step (fail)
     go_big_quiet_step (fail)
     go_big_quiet_step (fail)
     go_big_quiet_step (fail)
     go_big_quiet_step (fail)
     go_big_quiet_step (fail)
     go_big_quiet_step (fail)
     go_big_quiet_step (fail)
     go_big_quiet_step (fail)
     go_big_quiet_step (fail)
     go_big_quiet_step (fail)
     go_big_quiet_step (fail)
     go_big_quiet_step (fail)
     refine wpQuiet_nil ?_;intro _ rJ;obtain⟨⟨dq,ui⟩,Ah⟩:=rJ;subst Ah;have g7:=aC iy.out (Bn (below_regrown wq dq ui));have vO:=ae (eJ.out.kept g7 (by simp));have lk:=ae (aC bH.out g7);clear g7 r0 r1 r2 r3 r4 r5 r6 HC;generalize Go.Sort.grow (redrawn wq dq) ui=w7 at *;go_wp2;go_roundw
     case rel=>exact⟨k+1,by omega,by go_num,fg.out Hc.out,vO.out,lk.out⟩
     case measure=>simp[intOf];omega
  ·obtain rfl:k=ld.length:=by omega
   go_wp2;go_ret;exact⟨bq (by rw[HF.out,Jl.out]),aF⟩
theorem amy(B1 B2:Nat)(a1 a2:Option Addr)(n1 c1 n2 c2:Nat)(lv:List H.dE)(ld:List H.Bf)(w:World)(h1:pC w B1 (.slice a1 n1 c1) lv)(h2:mP w B2 (.slice a2 n2 c2) ld)(hl:lv.length=ld.length)(hn:ld.length<=1000) :
  Calls prog 60 #[.slice a1 n1 c1,.slice a2 n2 c2] w fun e w'=>e=.returned (.int .i64 (H.pz lv ld))/\w'=w:=by
 obtain rfl:=h1.len;obtain rfl:=h2.len;have HF:Hid (H.pz lv ld=(H.py lv ld ld.length).1):=by unfold Hid H.pz;rw[hl,Nat.min_self]
 have sX:lv.length<=ld.length:=by omega
 have Az:ld.length<=lv.length:=by omega
 clear hl;go_enter func60,ntmps60;go_wp2;go_loopw[5,6,7] (fun b m i wr=>∃k:Nat,k<=ld.length/\i=.int .i64 k/\b=.int .i64 (H.py lv ld k).1/\m=.int .i64 (H.py lv ld k).2/\wr=w) (fun _ _ i _=>ld.length-(intOf i).toNat)
 case atStart=>exact⟨0,bK _,rfl,rfl,rfl,rfl⟩
 case round=>
  obtain⟨k,hk,rfl,rfl,rfl,rfl⟩:=hrel;by_cases aK:k<ld.length
  ·obtain⟨x,hx⟩:∃x,lv[k]?=some x:=⟨_,aT (by omega)⟩
   obtain⟨b,hb⟩:∃b,ld[k]?=some b:=⟨_,aT aK⟩;obtain⟨g1,rfl,-,d0,d1,d2⟩:=pC.get h1 k x hx;obtain⟨g2,rfl,-,e0,e1⟩:=mP.get h2 k b hb;have HS:Hid (H.py lv ld (k+1)=if b.c=0/\(H.py lv ld k).2<x.c then ((k:Int),x.c) else H.py lv ld k):=by
    unfold Hid;rw[H.py,getD_some hx,getD_some hb]
   clear hx hb h1 h2 d0 d1;generalize H.py lv ld k=s at *;obtain⟨s1,s2⟩:=s;simp only at *
   cases hz:(b.c==0) with
   | false=>
    have yF:¬(b.c=0/\s2<x.c):=fun h=>by simp[h.1] at hz
    rw[ak yF] at HS;clear yF;go_wp2;go_roundw
    case rel=>exact⟨k+1,by omega,by go_num,by rw[HS.out],by rw[HS.out],by trivial⟩
    case measure=>simp[intOf];omega
   | true=>
    have cR:b.c=0:=by simpa using hz
    by_cases hs:s2<x.c
    ·rw[ay ⟨cR,hs⟩] at HS
     clear cR;go_wp2;go_roundw
     case rel=>exact⟨k+1,by omega,by go_num,by rw[HS.out],by rw[HS.out],by trivial⟩
     case measure=>simp[intOf];omega
    ·rw[ak (fun h=>hs h.2)] at HS
     clear cR;go_wp2;go_roundw
     case rel=>exact⟨k+1,by omega,by go_num,by rw[HS.out],by rw[HS.out],by trivial⟩
     case measure=>simp[intOf];omega
  ·obtain rfl:k=ld.length:=by omega
   clear h1 h2;go_wp2;go_ret;exact⟨cE (by rw[HF.out]),rfl⟩
theorem YR{lv:List H.dE}{ld:List H.Bf}{l:H.dE}{k:Nat}{b:H.Bf}(h:ld[k]?=some b):H.oT lv ld l (k+1)=if b.a+b.c<H.oT lv ld l k/\H.ud lv ld l (b.a+b.c)=true then b.a+b.c else H.oT lv ld l k:=by
 rw[H.oT,getD_some h];rfl
theorem YS{lv:List H.dE}{ld:List H.Bf}{l:H.dE}(h:DO ld):∀k,0<=H.oT lv ld l k/\H.oT lv ld l k<=2000000
 | 0=>QW h _
 | k+1=>by
  have ih:=YS (lv:=lv) (l:=l) h k
  cases e:ld[k]? with
  | none=>
   have:H.oT lv ld l (k+1)=if (ld.getD k H.aV).e<H.oT lv ld l k/\H.ud lv ld l (ld.getD k H.aV).e=true then (ld.getD k H.aV).e else H.oT lv ld l k:=rfl;rw[this,List.getD,e];have e0:((none:Option H.Bf).getD H.aV).e=0:=rfl;rw[e0]
   split<;>omega
  | some b=>
   have hb:=h k b e;rw[YR e]
   split<;>omega
theorem amz(B1 B2:Nat)(a1 a2:Option Addr)(n1 c1 n2 c2:Nat)(lv:List H.dE)(ld:List H.Bf)(l:H.dE)(w:World)(h1:pC w B1 (.slice a1 n1 c1) lv)(h2:mP w B2 (.slice a2 n2 c2) ld)(hl:lv.length=ld.length)(hn:ld.length<=1000)(hb:DO ld)
  (vc:0<=l.c) (AA:l.c<=1000000) :
  Calls prog 61 #[.slice a1 n1 c1,.slice a2 n2 c2,.agg #[.int .i64 l.f,.int .i64 l.t,.int .i64 l.c]] w fun e w'=>e=.returned (.int .i64 (H.qa lv ld l))/\w.grownBy w' none:=by
 obtain rfl:=h2.len;have Hb:=ae hb;have H1:=ae h1;have H2:=ae h2;have N0:=ae (aj.bB w 114 #[.int .i64 l.f,.int .i64 l.t,.int .i64 l.c]);have G0:=ae (aQ w (.cells #[.int .i64 l.f,.int .i64 l.t,.int .i64 l.c] 114) none);have HC:=ae (YQ B1 B2 a1 a2 n1 c1 ld.length c2 lv ld l 0 _ (eW h1 G0.out) (eW h2 G0.out) hl hn hb (by decide) (by decide) vc AA);have Hl:=ae hl;clear hb h1 h2 hl;go_enter func61,ntmps61;go_wp2_with fail;refine HC.out.mono ?_;rintro e w1⟨rfl,aH⟩;have dN:=ae (aC G0.out aH);have N1:=ae (N0.out.kept aH (by simp));clear HC aH
 cases hf:H.ud lv ld l 0 with
 | true=>
  have He:=ae (show H.qa lv ld l=0 by unfold H.qa;rw[ay hf]);clear hf;go_wp2;go_ret;exact⟨cE He.out.symm,dN.out⟩
 | false=>
  have He:=ae (show H.qa lv ld l=H.oT lv ld l ld.length by unfold H.qa;rw[ak (by rw[hf];decide)]);clear hf;go_wp2_with fail;refine(Xi B2 a2 ld.length c2 ld w1 (eW H2.out dN.out) hn Hb.out).mono ?_;rintro e w2⟨rfl,aM⟩;have dZ:=ae (aC dN.out aM);have N2:=ae (N1.out.kept aM (by simp));clear aM N0 N1 G0 dN;go_wp2;go_loopw[7,19] (fun b i wr=>∃k:Nat,k<=ld.length/\i=.int .i64 k/\b=.int .i64 (H.oT lv ld l k)/\aj wr w.heap.size 114 #[.int .i64 l.f,.int .i64 l.t,.int .i64 l.c]/\w.grownBy wr none) (fun _ i _=>ld.length-(intOf i).toNat)
  case atStart=>exact⟨0,bK _,rfl,rfl,N2.out,dZ.out⟩
  case round=>
   obtain⟨k,hk,rfl,rfl,bU,aF⟩:=hrel;have hs:=YS (lv:=lv) (l:=l) Hb.out k;by_cases aK:k<ld.length
   ·obtain⟨b,hx⟩:∃b,ld[k]?=some b:=⟨_,aT aK⟩
    obtain⟨g,rfl,gN,d0,d1⟩:=mP.get (eW H2.out aF) k b hx;have eC:=Hb.out k b hx;have HE:=ae (YR (lv:=lv) (l:=l) hx);have qS:=ae (aQ wr (.cells (gj b).toArray 116) none);have HG:=ae (aC aF qS.out);have iA:=bU.kept qS.out (by simp);have AB:=bU.lt;have fZ:=ae iA;have f0:wr.cell? ⟨w.heap.size,0,none⟩=some (.int .i64 l.f):=bU.cell 0;have f1:wr.cell? ⟨w.heap.size,1,none⟩=some (.int .i64 l.t):=bU.cell 1;have f2:wr.cell? ⟨w.heap.size,2,none⟩=some (.int .i64 l.c):=bU.cell 2;have HC:=ae (fun(p:Int) (p0:0<=p) (p1:p<=2000000)=>YQ B1 B2 a1 (some ⟨g,0,none⟩) n1 c1 ld.length c2 lv ld l p (wr.alloc (.cells (gj b).toArray 116)) (eW H1.out HG.out) (eW H2.out HG.out) Hl.out hn Hb.out p0 p1 vc AA);clear hx iA bU aF;generalize H.oT lv ld l k=s at *;obtain⟨ba,bc⟩:=b;simp only at *;by_cases hc:ba+bc<s
    ·have iW:=ae (HC.out (ba+bc) (by omega) (by omega))
     go_wp2_with fail;refine iW.out.mono ?_;rintro e w5⟨rfl,cJ⟩;have iC:=ae (aC HG.out cJ);have ow:=ae (fZ.out.kept cJ (by simp));clear cJ f0 f1 f2 d0 d1 HC iW
     cases hf:H.ud lv ld l (ba+bc) with
     | true=>
      rw[ay ⟨hc,hf⟩] at HE;clear hf;go_wp2;go_roundw
      case rel=>exact⟨k+1,by omega,by go_num,by rw[HE.out],ow.out,iC.out⟩
      case measure=>simp[intOf];omega
     | false=>
      rw[ak (by rw[hf];simp)] at HE;clear hf;go_wp2;go_roundw
      case rel=>exact⟨k+1,by omega,by go_num,by rw[HE.out],ow.out,iC.out⟩
      case measure=>simp[intOf];omega
    ·rw[ak (fun h=>hc h.1)] at HE
     go_wp2;go_roundw
     case rel=>exact⟨k+1,by omega,by go_num,by rw[HE.out],fZ.out,HG.out⟩
     case measure=>simp[intOf];omega
   ·obtain rfl:k=ld.length:=by omega
    go_wp2;go_ret;exact⟨cE He.out.symm,aF⟩
theorem RL{lv:List H.dE}{k:Nat}(h:H.pz lv (H.fI lv k)<0\/((H.fI lv k).length:Int)<=H.pz lv (H.fI lv k)):∀j,H.fI lv (k+j)=H.fI lv k
 | 0=>rfl
 | j+1=>by
  show H.BV lv (H.fI lv (k+j))=_;rw[RL h j];unfold H.BV;rw[ay h]
theorem YT{lv:List H.dE}(hc:∀i,i<lv.length->1<=(lv.getD i H.bQ).c/\(lv.getD i H.bQ).c<=512)(hn:lv.length<=100)(k:Nat):DO (H.fI lv k)/\(H.fI lv k).length=lv.length:=by
 have L:=(H.QP (fun i hi=>(hc i hi).1) k).1;refine⟨fun i b hb=>?_,L.len⟩;have hi:i<(H.fI lv k).length:=M.bP hb;have fC:i<lv.length:=by rw[<-L.len];exact hi
 have hs:∀(l:List H.Bf),(∀b∈l,0<=b.c/\b.c<=512)->0<=H.sumC l/\H.sumC l<=512*(l.length:Int):=by
  intro l
  induction l with
  | nil=>intro _;simp[H.sumC]
  | cons x l ih=>
   intro h;have h1:=h x pq;have h2:=ih fun b hb=>h b (sL _ hb);simp only[H.sumC,qe];omega
 have zQ:∀b∈H.fI lv k,0<=b.c/\b.c<=512:=by
  intro b' oh;obtain⟨j,hj⟩:=mM oh;have ke:j<lv.length:=by rw[<-L.len];exact M.bP hj
  have:=L.bN j ke;rw[getD_some hj] at this;have h2:=hc j ke;rcases this with e|e
  ·rw[e];decide
  ·rw[e.1];omega
 have h3:=hs _ zQ;have h4:=L.sum;have h5:=H.QO hi;rw[getD_some hb] at h5;have h6:=L.bN i fC;rw[getD_some hb] at h6;have h7:=zQ b (bV hb);have h8:b.e=b.a+b.c:=rfl;have h9:=L.len;rcases h6 with e|e
 ·rw[e];decide
 ·omega
theorem amA(xs:List H.Bf)(i:Nat)(x y:H.Bf)(h:xs[i]?=some x):((xs.flatMap gj).set (i*2) (.int .i64 y.a)).set (i*2+1) (.int .i64 y.c)=(xs.set i y).flatMap gj:=by
 have e1:=vE gj 2 (fun _=>rfl) xs i 0 x ⟨y.a,x.c⟩ (.int .i64 y.a) h (by decide) rfl;rw[Nat.add_zero] at e1;rw[e1];have h2:(xs.set i ⟨y.a,x.c⟩)[i]?=some ⟨y.a,x.c⟩:=by rw[oe,ay rfl,ay (M.bP h)]
 have e2:=vE gj 2 (fun _=>rfl) (xs.set i ⟨y.a,x.c⟩) i 1 ⟨y.a,x.c⟩ y (.int .i64 y.c) h2 (by decide) rfl;rw[e2,List.set_set]
theorem amB{lv:List H.dE}{k i:Nat}{x:H.dE}(h:H.pz lv (H.fI lv k)=i)(hi:i<(H.fI lv k).length)(hx:lv[i]?=some x):H.fI lv (k+1)=(H.fI lv k).set i ⟨H.qa lv (H.fI lv k) x,x.c⟩:=by
 show H.BV lv (H.fI lv k)=_;unfold H.BV;rw[h,ak (by omega),ey];unfold H.put;rw[getD_some hx]
theorem Tryz.RM:(prog.info? 116).map (fun i=>(i.zero,i.size,i.bytes))=some (some (.agg #[.int .i64 0,.int .i64 0]),2,16):=by kernel_rfl
theorem amC(n:Nat):(madeCells #[.int .i64 0,.int .i64 0] (n*2)).toList=(List.replicate n H.aV).flatMap gj:=by
 apply nF
 intro i;by_cases h:i<n*2
 ·have e1:=lL gj 2 (fun _=>rfl) (List.replicate n H.aV) (i/2) (i%2) H.aV (by rw[tV,ay (by omega)]) (by omega)
  rw[show i/2*2+i%2=i by omega] at e1;rw[e1];rcases(show i%2=0\/i%2=1 by omega) with e|e<;>rw[e]<;>simp[madeCells,h,gj,H.aV,e]
 ·rw[cX,cX]
  ·simp[List.length_flatMap,gj];omega
  ·simp[madeCells];omega
theorem amD(B:Nat)(a1:Option Addr)(n1 c1:Nat)(lv:List H.dE)(w:World)(h1:pC w B (.slice a1 n1 c1) lv)(hc:∀i,i<lv.length->1<=(lv.getD i H.bQ).c/\(lv.getD i H.bQ).c<=512)(hn:lv.length<=100) :
  Calls prog 33 #[.slice a1 n1 c1] w fun e w'=>(∃g,e=.returned (.slice (some ⟨g,0,none⟩) (H.eZ lv).length (H.eZ lv).length)/\mP w' w.heap.size (.slice (some ⟨g,0,none⟩) (H.eZ lv).length (H.eZ lv).length) (H.eZ lv))/\w.grownBy w' none:=by
 obtain rfl:=h1.len;obtain⟨i0,hi,cQ,cR,cZ⟩:=info_parts Tryz.RM;have H1:=ae h1;have sZ:=ae (fun k=>YT hc hn k);have Hc:=ae hc;have RN:Hid (H.fI lv lv.length=H.eZ lv):=rfl;clear h1 hc;go_enter func33,ntmps33;go_wp2_with (at_make;refine pU _ rfl _ _ 74 rfl w.heap.size 116 i0 (.agg #[.int .i64 0,.int .i64 0]) 2 underlying74 hi cQ cR _ _ _ _ lv.length rfl rfl rfl rfl ?c1 ?c2 ?c3 ?_)
 case c1=>rw[cZ];omega
 case c2=>unfold maxLen;omega
 case c3=>exact bj _
 intro w2 cB aM;have iV:=ae (show mP w2 w.heap.size (.slice (some ⟨w.heap.size,0,none⟩) lv.length lv.length) (H.fI lv 0) by
  unfold mP;rw[amC] at cB;have e:H.fI lv 0=List.replicate lv.length H.aV:=rfl;rw[e,vF];exact cB)
 clear cB;go_wp2;go_loopw[11] (fun i wr=>∃k:Nat,k<=lv.length/\i=.int .i64 k/\mP wr w.heap.size (.slice (some ⟨w.heap.size,0,none⟩) lv.length lv.length) (H.fI lv k)/\w.grownBy wr none) (fun i _=>lv.length-(intOf i).toNat)
 case atStart=>exact⟨0,bK _,rfl,iV.out,aM⟩
 case round=>
  obtain⟨k,hk,rfl,bU,aF⟩:=hrel;obtain⟨ju,vP⟩:=sZ.out k;have eJ:=ae bU;have bH:=ae aF;by_cases aK:k<lv.length
  ·have HC:=ae (amy B w.heap.size a1 (some ⟨w.heap.size,0,none⟩) lv.length c1 lv.length lv.length lv (H.fI lv k) wr (eW H1.out aF) bU vP.symm (by omega))
   have amE:=ae ju;have xx:=ae vP;clear bU aF ju vP;go_wp2_with fail;refine HC.out.mono ?_;rintro e w3⟨rfl,rfl⟩;clear HC;by_cases rO:H.pz lv (H.fI lv k)<0
   ·have HE:=ae (RL (.inl rO) (lv.length-k))
    rw[show k+(lv.length-k)=lv.length by omega,RN.out] at HE;generalize H.pz lv (H.fI lv k)=q at *;go_wp2;go_ret;have hl:(H.eZ lv).length=lv.length:=by rw[HE.out];exact xx.out
    refine⟨⟨w.heap.size,?_,?_⟩,bH.out⟩
    ·rw[hl];rfl
    ·rw[hl,HE.out];exact eJ.out
   ·by_cases zP:(lv.length:Int)<=H.pz lv (H.fI lv k)
    ·have HE:=ae (RL (.inr (by rw[xx.out];exact zP)) (lv.length-k))
     rw[show k+(lv.length-k)=lv.length by omega,RN.out] at HE;generalize H.pz lv (H.fI lv k)=q at *;go_wp2;go_ret;have hl:(H.eZ lv).length=lv.length:=by rw[HE.out];exact xx.out
     refine⟨⟨w.heap.size,?_,?_⟩,bH.out⟩
     ·rw[hl];rfl
     ·rw[hl,HE.out];exact eJ.out
    ·obtain⟨i,hq⟩:=fR (show 0<=H.pz lv (H.fI lv k) by omega)
     have fC:i<lv.length:=by omega
     obtain⟨x,hx⟩:∃x,lv[i]?=some x:=⟨_,aT fC⟩;obtain⟨y,hy⟩:∃y,(H.fI lv k)[i]?=some y:=⟨_,aT (by rw[xx.out];exact fC)⟩;obtain⟨g1,rfl,-,d0,d1,d2⟩:=pC.get (eW H1.out bH.out) i x hx;obtain⟨g2,e2,-,e0,e1⟩:=mP.get eJ.out i y hy;simp only[j8,oI,and_true] at e2;subst e2;have Np:=Hc.out i fC;rw[getD_some hx] at Np;have HP:=ae (amB hq (by rw[xx.out];exact fC) hx);have HS:=ae (fun z=>amA (H.fI lv k) i y z hy);have HC:=ae (amz B w.heap.size (some ⟨g1,0,none⟩) (some ⟨w.heap.size,0,none⟩) lv.length c1 lv.length lv.length lv (H.fI lv k) x w3 (eW H1.out bH.out) eJ.out xx.out.symm (by rw[xx.out];omega) amE.out (by omega) (by omega));rw[hq];clear hq hx hy rO zP;obtain⟨p,Hp⟩:∃p,Hid (H.qa lv (H.fI lv k) x=p):=⟨_,rfl⟩;rw[Hp.out] at HC HP;go_wp2_with fail;refine HC.out.mono ?_;rintro e w4⟨rfl,bm⟩;have jr:=ae (eW eJ.out bm);have fB:=ae (aC bH.out bm);have d2':=aG bm d2;have e0':=aG bm e0;have Nj:=aG bm e1;have qT:∀j,w4.frozen? ⟨w.heap.size,j,none⟩=false:=by
      obtain⟨g5,dV,e5,-,-,Nq,-⟩:=xp jr.out (by rw[xx.out];omega);simp only[j8,oI,and_true] at e5;subst e5;exact fun j=>Nq.free j
     have f0:=qT (i*2);have f1:=qT (i*2+1);have At:=ae (DW (DW jr.out (i*2) (.int .i64 p)) (i*2+1) (.int .i64 x.c));have kD:=ae (dF (dF fB.out (bD w4 w.heap.size (i*2) (.int .i64 p)) (bj _)) (bD (w4.setCell ⟨w.heap.size,i*2,none⟩ (.int .i64 p)) w.heap.size (i*2+1) (.int .i64 x.c)) (bj _));clear bm d0 d1 d2 e0 e1 qT HC;go_wp2;go_roundw
     case rel=>
      refine⟨k+1,by omega,by go_num,?_,kD.out⟩;have e:=At.out;have eS:=HS.out ⟨p,x.c⟩;rw[eS,<-HP.out] at e;have Az:=(sZ.out (k+1)).2;unfold mP;rw[Az];rw[xx.out] at e;exact e
     case measure=>simp[intOf];omega
  ·obtain rfl:k=lv.length:=by omega
   rw[RN.out] at bU vP;clear eJ bH;go_wp2;go_ret;refine⟨⟨w.heap.size,?_,?_⟩,aF⟩
   ·rw[vP];rfl
   ·rw[vP];exact bU
theorem amH(s:ByteArray)(w:World)(hs:s.size<=9223372036854775807) :
  Calls prog 30 #[.string s] w fun e w'=>w.grownBy w' none/\((M.ff s≠0/\e=.returned (.tuple #[.pointer none,.int .i64 (M.ff s)])) \/
   (M.ff s=0/\∃m,w.heap.size<=m/\e=.returned (.tuple #[.pointer (some ⟨m,0,none⟩),.int .i64 0])/\cN w' m (M.gm s).1/\lK (M.gm s).1)):=by
 by_cases hl:4096<s.size
 ·have He:=ae (show M.ff s=1 by unfold M.ff M.nQ;rw[ay (by rw[ay hl];decide),ay hl])
  go_enter func30,ntmps30;go_wp2_with fail;refine(ahp s w hl hs).mono ?_;rintro e w1⟨rfl,aH⟩;go_wp2
  go_ret2
  exact⟨aH,.inl ⟨by rw[He.out];decide,by rw[He.out];rfl⟩⟩
 ·go_enter func30,ntmps30
  go_wp2_with fail;refine(aht s w (by omega)).mono ?_;rintro e w1⟨aH,⟨hp,rfl⟩|⟨hp,m,hm,rfl,hM,hW⟩⟩
  ·have He:=ae (show M.ff s=2 by unfold M.ff;rw[ay (by rw[hp];decide),hp])
   clear hp;go_wp2
   go_ret2
   exact⟨aH,.inl ⟨by rw[He.out];decide,by rw[He.out];rfl⟩⟩
  ·have He:=ae (show M.ff s=M.check (M.gm s).1 by unfold M.ff;rw[ak (by rw[hp];decide)])
   clear hp;obtain⟨md,BD⟩:∃md,md=(M.gm s).1:=⟨_,rfl⟩;rw[<-BD] at He hM hW;have BE:=ae BD;clear BD;go_wp2_with fail;refine(aiZ m md w1 hM hW).mono ?_;rintro e w2⟨rfl,aM⟩;have G2:=aC aH aM;have M2:=hM.Z aM;clear aH aM hM
   cases hc:(M.check md != 0) with
   | true=>
    have bE:M.check md≠0:=by simpa using hc
    have Hc:=ae bE;clear bE;go_wp2
    go_ret2
    exact⟨G2,.inl ⟨by rw[He.out];exact Hc.out,by rw[He.out];rfl⟩⟩
   | false=>
    have bE:M.check md=0:=by simpa using hc
    have Hc:=ae bE;clear bE;go_wp2
    go_ret2
    exact⟨G2,.inr ⟨by rw[He.out];exact Hc.out,m,hm,rfl,by rw[<-BE.out];exact M2,by rw[<-BE.out];exact hW⟩⟩
def gk(ts:List M.Tn):List Int:=(ts.filter fun t=>t.af==0).map M.cellsOf
theorem amI(ts:List M.Tn):(gk ts).length<=ts.length:=by
 unfold gk;rw[jh];exact List.length_filter_le _ _
def pM(md:M.Md):M.Md:=H.jD md
def pD(md:M.Md):H.Dr:=H.nE (pM md)
def pB(md:M.Md):List H.Bf:=H.eZ (pD md).lv
def xy(w:World)(B p:Nat)(md:M.Md):Prop:=
 ∃m an cn ab cb,B<=p/\B<=m/\aj w p 80 #[.pointer (some ⟨m,0,none⟩),.int .i64 (H.fN (pM md)),.slice an (pD md).aW.length cn,.slice ab (pB md).length cb] /\
  cN w m (pM md)/\aZ w B (.slice an (pD md).aW.length cn) (pD md).aW/\mP w B (.slice ab (pB md).length cb) (pB md)/\lK md/\O.iN md
def Pl(w:World)(p:Nat)(md:M.Md):Prop:=xy w 0 p md
theorem xy.Z{w w':World}{B p:Nat}{md:M.Md}(h:xy w B p md)(hg:w.grownBy w' none):xy w' B p md:=by
 obtain⟨m,an,cn,ab,cb,b1,b2,h1,h2,h3,h4,h5,h6⟩:=h;exact⟨m,an,cn,ab,cb,b1,b2,h1.kept hg (by simp),h2.Z hg,h3.Z hg,eW h4 hg,h5,h6⟩
theorem Pl.Z{w w':World}{p:Nat}{md:M.Md}(h:Pl w p md)(hg:w.grownBy w' none):Pl w' p md:=xy.Z h hg
theorem Pl.wf{w:World}{p:Nat}{md:M.Md}(h:Pl w p md):lK md:=by
 obtain⟨m,an,cn,ab,cb,b1,b2,h1,h2,h3,h4,h5,h6⟩:=h;exact h5
theorem Fq{md:M.Md}(h:O.iN md):∃C,H.dH (pM md) C:=by
 obtain⟨C,S⟩:=H.MU h;exact⟨C,S.jD⟩
theorem amJ{s:ByteArray}(h:M.ff s=0):O.iN (M.gm s).1:=by
 have hp:M.nQ s=0:=by
  have h':=h;unfold M.ff at h';by_cases c:M.nQ s≠0
  ·rw[ay c] at h';exact h'
  ·simpa using c
 have hc:M.check (M.gm s).1=0:=by have h':=h;unfold M.ff at h';rw[ak (by rw[hp];decide)] at h';exact h'
 exact O.ajr (M.ai7 s h) hc
theorem amK(s:ByteArray)(w:World)(hs:s.size<=9223372036854775807) :
  Calls prog 18 #[.string s] w fun e w'=>w.grownBy w' none/\((M.ff s≠0/\e=.returned (.tuple #[.pointer none,.int .i64 (M.ff s)])) \/
   (M.ff s=0/\∃q,w.heap.size<=q/\e=.returned (.tuple #[.pointer (some ⟨q,0,none⟩),.int .i64 0])/\xy w' w.heap.size q (M.gm s).1)):=by
 go_enter func18,ntmps18;go_wp2_with fail;refine(amH s w hs).mono ?_;rintro e w1⟨aH,⟨hr,rfl⟩|⟨hr,m,hm,rfl,hM,hW⟩⟩
 ·have rP:(M.ff s != 0)=true:=by simpa using hr
  have Hr:=ae hr;clear hr;go_wp2
  go_ret2
  exact⟨aH,.inl ⟨Hr.out,rfl⟩⟩
 ·have Hr:=ae hr
  have H1:=ae (amJ hr);clear hr;obtain⟨md,BE⟩:∃md,Hid ((M.gm s).1=md):=⟨_,rfl⟩;rw[BE.out] at hM hW H1;obtain⟨C,S⟩:=H.MU H1.out;have HS:=ae S.jD;have HC:=ae (amj m md C w1 hM S);have HW:=ae hW;have Fj:w.heap.size<=m:=hm;have hmw:m<w1.heap.size:=by obtain⟨_,_,_,_,_,_,hB,-⟩:=hM;exact hB.lt
  have dN:=ae aH;clear hM hW S aH;go_wp2_with fail;refine HC.out.mono ?_;rintro e w2⟨rfl,Fo,fA⟩;have YU:cN w2 m (pM md):=Fo;have Ng:=ae YU;have Co:Hid (H.dH (pM md) C):=HS.out;have dZ:=ae (Rf dN.out fA hm);have qE:=fA.size;clear HC Fo YU fA;go_wp2_with fail;refine(amo m (pM md) C w2 Ng.out Co.out).mono ?_;rintro e w3⟨⟨d,rfl,hd,YV⟩,aU⟩;have amL:pG w3 w2.heap.size d (H.fN (pM md)) (pD md):=YV;obtain⟨an,cn,al,cl,kR,hN,hL⟩:=amL;have p2:w3.cell? ⟨d,2,none⟩=some (.slice al (pD md).lv.length cl):=kR.cell 2;have sU:=ae kR;have HN:=ae hN;have HL:=ae hL;have fW:=ae (aC dZ.out aU);have Nh:=ae (Ng.out.Z aU);have Pn:=H.Ag Co.out;have hlv:(pD md).lv.length<=100:=by
   have e1:(pD md).lv.length=H.fN (pM md)+(pM md).ag.length:=Pn.ll;have e2:=H.Mz (pM md);have e3:H.cy (pM md).au (pM md).au.length<=(pM md).au.length:=by unfold H.cy;exact jK (List.length_filter_le _ _) (by simp)
   have:=Co.out.nt;have:=Co.out.no;omega
  have amN:=ae (Pn.lh Co.out);have Jn:=fW.out.size;have amO:=aU.size;clear kR hN hL YV aU Pn;go_wp2_with fail;refine(amD w2.heap.size al (pD md).lv.length cl (pD md).lv w3 HL.out amN.out hlv).mono ?_;rintro e w4⟨⟨g4,rfl,ku⟩,bm⟩;have jr:Hid (mP w4 w3.heap.size (.slice (some ⟨g4,0,none⟩) (pB md).length (pB md).length) (pB md)):=ku;have Nr:=sU.out.kept bm (by simp);have p0':w4.cell? ⟨d,0,none⟩=some (.int .i64 (H.fN (pM md))):=Nr.cell 0;have p1':w4.cell? ⟨d,1,none⟩=some (.slice an (pD md).aW.length cn):=Nr.cell 1;have hd4:=Nr.lt;have M7:=ae (HN.out.Z bm);have fB:=ae (aC fW.out bm);have Ci:=ae (Nh.out.Z bm);have rm:=bm.size;have Heb:Hid ((H.eZ (pD md).lv).length=(pB md).length):=rfl;rw[Heb.out];clear ku Nr bm p2 sU HN HL Nh fW;have bC:=aC (aQ w4 (.cells #[.pointer (some ⟨m,0,none⟩),.int .i64 (H.fN (pM md)),.slice an (pD md).aW.length cn,.slice (some ⟨g4,0,none⟩) (pB md).length (pB md).length] 80) none) (gH _ none);have D7:Hid (xy (w4.alloc (.cells #[.pointer (some ⟨m,0,none⟩),.int .i64 (H.fN (pM md)),.slice an (pD md).aW.length cn,.slice (some ⟨g4,0,none⟩) (pB md).length (pB md).length] 80)).drew w.heap.size w4.heap.size md):=
   ⟨m,an,cn,some ⟨g4,0,none⟩,(pB md).length,by omega,Fj,(aj.bB w4 80 _).drew,Ci.out.Z bC,(M7.out.mono (by have:=dZ.out.size;omega)).Z bC,eW (m9 jr.out (by omega)) bC,HW.out,H1.out⟩
  have qS:=ae (aC fB.out bC);have LC:w.heap.size<=w4.heap.size:=by omega
  clear bC Ci M7 jr fB;go_wp2
  go_region
  all_goals
   go_wp2
   go_ret2
   exact⟨qS.out,.inr ⟨Hr.out,w4.heap.size,LC,rfl,by rw[BE.out];exact D7.out⟩⟩
def xz(a n:Int):Int:=(if a<0 then -(a+1) else a)%n
theorem amQ{xs ys:List Int}{k:Nat}{x y:Int}(hx:xs[k]?=some x)(hy:ys[k]?=some y)(h:x≠y):decide (xs=ys)=false:=by
 rw[eD];intro e;rw[e,hy] at hx;injection hx with hx;exact h hx.symm
theorem amR{xs ys:List Int}(hl:xs.length=ys.length)(h:∀j,j<xs.length->xs[j]?=ys[j]?):decide (xs=ys)=true:=by
 rw[eG]
 apply nF
 intro j;rcases cF j xs.length with h' | h'
 ·exact h j h'
 ·rw[cX h',cX (by omega)]
end Go.Proofs.YtcnhfffgbamonabGreat
