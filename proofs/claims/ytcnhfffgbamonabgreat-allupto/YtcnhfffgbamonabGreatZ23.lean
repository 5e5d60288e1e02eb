import Derived.Test.YtcnhfffgbamonabGreatZ22
set_option maxRecDepth 100000
set_option maxHeartbeats 6400000
namespace Go.Proofs.YtcnhfffgbamonabGreat
open Go.Proofs.Tryz
open Go.RowKit
theorem Ts.Z{w w':World}{base:Nat}{v:Value}{tl:List Td}(h:Ts w base v tl)(hg:w.grownBy w' none):Ts w' base v tl:=⟨eW h.1 hg,fun t ht=>(h.2 t ht).Z hg⟩
theorem abB(b base:Nat)(a:Option Addr)(n c:Nat)(tl:List Td)(w:World)(hc:w.cell? ⟨b,7,none⟩=some (.slice a n c))(hT:Ts w base (.slice a n c) tl)(hl:tl.length<=1000000000) :
  Calls prog 48 #[.pointer (some ⟨b,0,none⟩)] w fun e w'=>e=.returned (.bool true)/\w.grownBy w' none:=by
 have hn:n=tl.length:=by obtain⟨ao,c',e⟩:=gY hT.1;injection e with _ e _
 subst hn;have HT:=ae hT;have Hc:=ae hc;clear hT;go_enter func48,ntmps48;go_wp2;clear hc;go_loopw[3] (fun i wr=>∃k:Nat,k<=tl.length/\i=.int .i64 k/\w.grownBy wr none) (fun i _=>tl.length-(intOf i).toNat)
 case atStart=>exact⟨0,bK _,rfl,gL _ _⟩
 case round=>
  obtain⟨k,hk,rfl,aF⟩:=hrel;have hc:=aG aF Hc.out;by_cases aK:k<tl.length
  ·obtain⟨t,ht⟩:∃t,tl[k]?=some t:=⟨_,aT aK⟩
   obtain⟨g,rfl,-,-,d0,d1,d2,d3,d4,hS⟩:=(HT.out.Z aF).row ht;have hm0:=hS.m0;have Nf:=hS.m1;have RG:=hS.oX.1;have hf2:=hS.oX.2.1;have hf3:=hS.oX.2.2.1;have hf4:=hS.oX.2.2.2;obtain⟨g0,nb,G,gs,g2,ni,g3,no,mark⟩:=t;simp only at d0 d1 d2 d3 d4 hm0 Nf RG hf2 hf3 hf4;have HS:=ae hS;have HG:=ae aF;have jk:=ae (fun nd=>RR (some ⟨g2,0,none⟩) ni ni _ (mark+1) (wr.drewN nd) (SD (HS.out.Z (bF wr nd none)).i) (by simp;omega) (by omega) (by omega) SE);have w1:IntKind.i64.wrap (mark+1)=mark+1:=by rw[cS];omega
   have w2:IntKind.i64.wrap (mark+2)=mark+2:=by rw[cS];omega
   have w3:IntKind.i64.wrap (-mark) = -mark:=by rw[cS];omega
   have Jq:(-mark != -mark)=false:=by simp
   have aw2:(-mark-3 != -mark-3)=false:=by simp
   clear ht hS aF;go_wp2_with fail;go_quiet (exact mQ (jk.out _));have gq:=bF wr nq none;have dN:=ae (aC HG.out gq);have jw:=ae (HS.out.Z gq);have c0:=aG gq d0;have c1:=aG gq d1;have c3:=aG gq d3;have c4:=aG gq d4;clear gq HG HS d0 d1 d2 d3 d4 hc jk;generalize wr.drewN nq=wa at *;have iW:=ae (fun nd=>RR (some ⟨g3,0,none⟩) no no _ (mark+2) (wa.drewN nd) (SD (jw.out.Z (bF wa nd none)).o) (by simp;omega) (by omega) (by omega) SE);go_wp2_with fail;go_quiet (exact mQ (iW.out _));have gq:=bF wa nq none;have dZ:=ae (aC dN.out gq);have hZ:=ae (jw.out.Z gq);have d0:=aG gq c0;have d1:=aG gq c1;have d4:=aG gq c4;clear gq dN jw c0 c1 c3 c4 iW;generalize wa.drewN nq=wb at *;have D0:=ae d0;have D1:=ae d1;have D4:=ae d4;go_wp2;clear d0 d1 d4;go_loopw[7] (fun i wr=>∃q:Nat,q<=nb/\i=.int .i64 q/\wb.grownBy wr none) (fun i _=>nb-(intOf i).toNat)
   case atStart=>exact⟨0,bK _,rfl,gL _ _⟩
   case round=>
    obtain⟨q,hq,rfl,ji⟩:=hrel;have d0:=aG ji D0.out;have d4:=aG ji D4.out;by_cases aol:q<nb
    ·obtain⟨x0,x1⟩:=(hZ.out.Z ji).aog aol
     simp only at x0 x1;have iy:=ae ji;clear ji;go_wp2;go_quiet (fail);have xF:=ae (aC iy.out (bF wr nq none));go_wp2;go_roundw
     case rel=>exact⟨q+1,by omega,by go_num,xF.out⟩
     case measure=>simp[intOf];omega
    ·obtain rfl:q=nb:=by omega
     have iy:=ae ji;clear ji;go_wp2;clear d0 d4;go_loopw[8] (fun i wr=>∃q:Nat,q<=gs.length/\i=.int .i64 q/\wb.grownBy wr none) (fun i _=>gs.length-(intOf i).toNat)
     case atStart=>exact⟨0,bK _,rfl,iy.out⟩
     case round=>
      clear iy;obtain⟨r,hr,rfl,yT⟩:=hrel;have d1:=aG yT D1.out;have d4:=aG yT D4.out;by_cases aom:r<gs.length
      ·obtain⟨p,hp⟩:∃p,gs[r]?=some p:=⟨_,aT aom⟩
       have yU:=hZ.out.Z yT;obtain⟨x0,x1,x2⟩:=yU.gS (k:=r) (p:=p) hp;have s8:=yU.abA p (bV hp);have FC:=yU.f r p hp;obtain⟨pg,pn⟩:=p;simp only at x0 x1 x2 s8 FC;have HP:=ae FC;have rW:=ae (fun nd=>RR (some ⟨pg,0,none⟩) pn pn _ (mark+4+r) (wr.drewN nd) (SD (HP.out.kept (bF wr nd none) (by simp))) (by simp;omega) (by omega) (by omega) SE);have w4:IntKind.i64.wrap (mark+4)=mark+4:=by rw[cS];omega
       have w5:IntKind.i64.wrap (mark+4+(r:Int))=mark+4+(r:Int):=by rw[cS];omega
       have w6:IntKind.i64.wrap (-mark-3) = -mark-3:=by rw[cS];omega
       have xF:=ae yT;clear yU hp FC yT;go_wp2_with fail;go_quiet (exact mQ (rW.out _));have gq:=bF wr nq none;have MZ:=ae (aC xF.out gq);have e1:=aG gq d1;have e4:=aG gq d4;have y0:=aG gq x0;have y1:=aG gq x1;have y2:=aG gq x2;clear gq d1 d4 x0 x1 x2 xF HP rW;generalize wr.drewN nq=wt at *;go_wp2;go_quiet (fail);have HGu:=ae (aC MZ.out (bF wt nq none));go_wp2;go_roundw
       case rel=>exact⟨r+1,by omega,by go_num,HGu.out⟩
       case measure=>simp[intOf];omega
      ·obtain rfl:r=gs.length:=by omega
       have xF:=ae (aC dZ.out yT);clear yT;go_wp2;go_roundw
       case rel=>exact⟨k+1,by omega,by go_num,xF.out⟩
       case measure=>simp[intOf];omega
  ·obtain rfl:k=tl.length:=by omega
   have HG:=ae aF;clear aF;go_wp2;go_ret;exact⟨rfl,HG.out⟩
theorem CA{w:World}{g tt:Nat}{xs:List H.Bf}(hB:aj w g tt (xs.flatMap gj).toArray){i:Nat}(h:i<xs.length) :
  w.cell? ⟨g,i*2,none⟩=some (.int .i64 (xs.getD i H.aV).a)/\w.cell? ⟨g,i*2+1,none⟩=some (.int .i64 (xs.getD i H.aV).c):=by
 have e:xs[i]?=some (xs.getD i H.aV):=by rw[List.getD,aT h];rfl
 have cK:∀j,j<2->w.cell? ⟨g,i*2+j,none⟩=(gj (xs.getD i H.aV))[j]?:=by
  intro j hj;rw[hB.cell (i*2+j),nH];exact lL gj 2 (fun _=>rfl) xs i j _ e hj
 exact⟨cK 0 (by omega),cK 1 (by omega)⟩
def Ej(w:World)(a:Option Addr)(bs:List H.Bf):Prop:=
 ∀(i:Nat) x,bs[i]?=some x->∃g,a=some ⟨g,0,none⟩/\w.cell? ⟨g,i*2,none⟩=some (.int .i64 x.a)/\w.cell? ⟨g,i*2+1,none⟩=some (.int .i64 x.c)
theorem Ej.Z{w w':World}{a:Option Addr}{bs:List H.Bf}(h:Ej w a bs)(hg:w.grownBy w' none):Ej w' a bs:=fun i x hx=>by
 obtain⟨g,e,h1,h2⟩:=h i x hx;exact⟨g,e,aG hg h1,aG hg h2⟩
theorem abD{w:World}{g tt:Nat}{bs:List H.Bf}(hB:aj w g tt (bs.flatMap gj).toArray):Ej w (some ⟨g,0,none⟩) bs:=fun i x hx=>by
 have hl:=M.bP hx;have e:bs.getD i H.aV=x:=by rw[List.getD,hx];rfl
 have:=CA hB hl;rw[e] at this;exact⟨g,rfl,this.1,this.2⟩
def JK(w:World)(a:Option Addr)(ss:List Sp):Prop:=
 ∀(i:Nat) s,ss[i]?=some s->∃G b c,a=some ⟨G,0,none⟩/\w.cell? ⟨G,i*3,none⟩=some (.int .i64 s.af)/\w.cell? ⟨G,i*3+1,none⟩=some (.slice b s.bS.length c)/\w.cell? ⟨G,i*3+2,none⟩=some (.int .i64 s.to)/\Sl w (.slice b s.bS.length c) s.bS
theorem JK.Z{w w':World}{a:Option Addr}{ss:List Sp}(h:JK w a ss)(hg:w.grownBy w' none):JK w' a ss:=fun i s hs=>by
 obtain⟨G,b,c,e,h1,h2,h3,h4⟩:=h i s hs;exact⟨G,b,c,e,aG hg h1,aG hg h2,aG hg h3,h4.Z hg⟩
def abE(B:Nat)(w w':World):Prop:=∀k,B<=k->k<w.heap.size->w'.heap[k]?=w.heap[k]?
theorem FD{w w':World}{base B size n:Nat}{e:TypeId}{v:Value}{xs:List Value}(ho:w.ownsRow base e size v n xs)(hb:B<=base)(h:abE B w w'):w'.ownsRow base e size v n xs:=by
 refine⟨ho.1,?_⟩;rcases ho.2 with h' | ⟨g,cap,dV,rfl,wS,hg,hr⟩
 ·exact .inl h'
 ·refine .inr ⟨g,cap,dV,rfl,wS,?_,hr⟩
  have hl:g<w.heap.size:=by
   rcases cF g w.heap.size with aK|AL
   ·exact aK
   ·rw[Array.getElem?_eq_none AL] at hg;cases hg
  rw[h g (by omega) hl];exact hg
structure tj(w:World)(B:Nat)(ab fH ai ao:Option Addr)(cb cs ci co:Nat)(bs:List H.Bf)(ss:List Sp)(is us:List Int):Prop where
 b:w.ownsRow B 116 2 (.slice ab bs.length cb) bs.length (bs.flatMap gj)
 s:∃ps:List (Sp×Nat),ps.map (·.1)=ss/\w.ownsRow B 151 3 (.slice fH ss.length cs) ss.length (ps.flatMap fun p=>rS p.2 p.1)/\∀p∈ps,aZ w B (dg p.2 p.1.bS) p.1.bS
 i:aZ w B (.slice ai is.length ci) is
 o:aZ w B (.slice ao us.length co) us
theorem tj.aor{w w':World}{B:Nat}{ab fH ai ao:Option Addr}{cb cs ci co:Nat}{bs:List H.Bf}{ss:List Sp}{is us:List Int}(h:tj w B ab fH ai ao cb cs ci co bs ss is us)(ha:abE B w w'):tj w' B ab fH ai ao cb cs ci co bs ss is us:=by
 obtain⟨h1,⟨ps,p1,p2,p3⟩,h3,h4⟩:=h;exact⟨FD h1 (bj _) ha,⟨ps,p1,FD p2 (bj _) ha,fun p hp=>FD (p3 p hp) (bj _) ha⟩,FD h3 (bj _) ha,FD h4 (bj _) ha⟩
theorem tj.bsl{w:World}{B:Nat}{ab fH ai ao:Option Addr}{cb cs ci co:Nat}{bs:List H.Bf}{ss:List Sp}{is us:List Int}(h:tj w B ab fH ai ao cb cs ci co bs ss is us):Ej w ab bs:=fun i x hx=>by
 have hl:=M.bP hx;obtain⟨g,ha,hb,hn,hc⟩:=nZ h.b (by omega);have cK:∀j,j<2->w.cell? ⟨g,i*2+j,none⟩=(gj x)[j]?:=by
  intro j hj;rw[hc _ (by omega)];exact lL gj 2 (fun _=>rfl) bs i j x hx hj
 exact⟨g,ha,cK 0 (by omega),cK 1 (by omega)⟩
theorem tj.stq{w:World}{B:Nat}{ab fH ai ao:Option Addr}{cb cs ci co:Nat}{bs:List H.Bf}{ss:List Sp}{is us:List Int}(h:tj w B ab fH ai ao cb cs ci co bs ss is us):JK w fH ss:=fun i s hs=>by
 obtain⟨ps,p1,p2,p3⟩:=h.s;have hl:=M.bP hs;obtain⟨g,ha,hb,hn,hc⟩:=nZ p2 (by omega);subst p1;rw[dY] at hs;obtain⟨p,hp,rfl⟩:=Option.map_eq_some_iff.1 hs;have cK:∀j,j<3->w.cell? ⟨g,i*3+j,none⟩=(rS p.2 p.1)[j]?:=by
  intro j hj;rw[hc _ (by omega)];exact lL (fun p:Sp×Nat=>rS p.2 p.1) 3 (fun _=>rfl) ps i j p hp hj
 exact⟨g,_,_,ha,cK 0 (by omega),cK 1 (by omega),cK 2 (by omega),(p3 p (bV hp)).sl⟩
theorem abO{l:List Int}{k:Nat}{x v:Int}(h:l[k]?=some x)(e:x=v):(l.take (k+1)).count v=(l.take k).count v+1:=by
 rw[H.kj h,List.count_append,e];simp
theorem abP{l:List Int}{k:Nat}{x v:Int}(h:l[k]?=some x)(e:¬x=v):(l.take (k+1)).count v=(l.take k).count v:=by
 rw[H.kj h,List.count_append,List.count_singleton,ak (by simpa using e)];rfl
theorem aow{l:List Int}{k:Nat}{x v:Int}(h:l[k]?=some x)(e:x=v):(l.take (k+1)).contains v=true:=by
 rw[H.kj h];simp[e]
theorem aox{l:List Int}{k:Nat}{x v:Int}(h:l[k]?=some x)(e:¬x=v):(l.take (k+1)).contains v=(l.take k).contains v:=by
 rw[H.kj h];simp;exact fun h=>aN h.symm e
theorem abQ{ss:List Sp}{v:Int}(hf:∀s∈ss,s.bS.length<=1000):∀j,j<=ss.length->T.oy ss v j<=1000*j
 | 0,_=>bj _
 | j+1,hj=>by
  have ih:=abQ (v:=v) hf j (by omega);have hx:ss[j]?=some ss[j]:=aT (by omega);have h1:=hf _ (bV hx);have h2:=List.count_le_length (a:=v) (l:=(ss[j]).bS);rw[T.oy,hx];show T.oy ss v j+(ss[j]).bS.count v<=_;omega
theorem aoy(G go co:Nat)(ss:List Sp)(us:List Int)(w:World)(hS:yV w (.slice (some ⟨G,0,none⟩) ss.length ss.length) ss)(hU:Sl w (.slice (some ⟨go,0,none⟩) us.length co) us)(hs:ss.length<=1000)(hu:us.length<=1000)(hf:∀s∈ss,s.bS.length<=1000)(ok:T.NU ss us) :
  Calls prog 79 #[.slice (some ⟨G,0,none⟩) ss.length ss.length,.slice (some ⟨go,0,none⟩) us.length co] w fun e w'=>e=.returned (.bool true)/\w.grownBy w' none:=by
 have HS:=ae hS;have HU:=ae hU;have jq:=ae ok;have Hf:=ae hf;clear hS hU ok hf;go_enter func79,ntmps79;go_wp2;go_loopw[5] (fun i wr=>∃k:Nat,k<=ss.length/\i=.int .i64 k/\w.grownBy wr none) (fun i _=>ss.length-(intOf i).toNat)
 case atStart=>exact⟨0,bK _,rfl,gL _ _⟩
 case round=>
  obtain⟨i,hi,rfl,N7⟩:=hrel;by_cases aK:i<ss.length
  ·obtain⟨s,jG⟩:∃s,ss[i]?=some s:=⟨_,aT aK⟩
   have Hs:=ae jG;have D3:=ae N7;obtain⟨v,Hv⟩:∃v,Hid (s.to=v):=⟨_,rfl⟩;clear jG N7;go_wp2;go_loopw[6,8] (fun n q wr=>∃k:Nat,k<=us.length/\n=.int .i64 ((us.take k).count v:Nat)/\q=.int .i64 k/\w.grownBy wr none) (fun _ q _=>us.length-(intOf q).toNat)
   case atStart=>exact⟨0,bK _,by simp,rfl,D3.out⟩
   case round=>
    clear D3;obtain⟨k,hk,rfl,rfl,aF⟩:=hrel;by_cases yY:k<us.length
    ·obtain⟨x,hx⟩:∃x,us[k]?=some x:=⟨_,aT yY⟩
     obtain⟨a,ea,dx⟩:=(HU.out.Z aF).get k x hx;injection ea with ea;subst ea;rw[wQ] at dx;obtain⟨g,-,-,d2,-⟩:=(HS.out.Z aF).get i s Hs.out;rw[Hv.out] at d2;have km:(us.take k).count v<=1000:=by have:=List.count_le_length (a:=v) (l:=us.take k);simp at this;omega
     have bH:=ae aF;by_cases e:x=v
     ·have b1:(x==v)=true:=by simpa using e
      have Hc:=ae (abO hx e);clear hx aF e;generalize (us.take k).count v=cn at *;go_wp2;go_quiet (fail);have iy:=ae (aC bH.out (bF wr nq none));go_wp2;go_roundw
      case rel=>exact⟨k+1,by omega,by rw[Hc.out];go_num,by go_num,iy.out⟩
      case measure=>simp[intOf];omega
     ·have b1:(x==v)=false:=by simpa using e
      have Hc:=ae (abP hx e);clear hx aF e;generalize (us.take k).count v=cn at *;go_wp2;go_quiet (fail);have iy:=ae (aC bH.out (bF wr nq none));go_wp2;go_roundw
      case rel=>exact⟨k+1,by omega,by rw[Hc.out],by go_num,iy.out⟩
      case measure=>simp[intOf];omega
    ·obtain rfl:k=us.length:=by omega
     have bH:=ae aF;have Ht:Hid ((us.take us.length).count v=us.count v):=by rw[jo];rfl
     rw[Ht.out];have km:us.count v<=1000:=by have:=List.count_le_length (a:=v) (l:=us);omega
     have SG:=jq.out i s Hs.out;rw[Hv.out] at SG;have sZ:=ae SG;clear aF SG;generalize us.count v=cu at *;go_wp2;go_loopw[6,7,9] (fun n c q wr=>∃j:Nat,j<=ss.length/\n=.int .i64 ((cu+T.oy ss v j:Nat):Int)/\c=.bool (T.uz ss v j)/\q=.int .i64 j/\w.grownBy wr none) (fun _ _ q _=>ss.length-(intOf q).toNat)
     case atStart=>exact⟨0,bK _,rfl,rfl,rfl,bH.out⟩
     case round=>
      clear bH;obtain⟨j,hj,rfl,rfl,rfl,bO⟩:=hrel;have hfn:=abQ (v:=v) Hf.out j hj;by_cases FF:j<ss.length
      ·obtain⟨z,yF⟩:∃z,ss[j]?=some z:=⟨_,aT FF⟩
       have vV:=Hf.out z (bV yF);have Hz:=ae yF;have cT:=ae bO;have Hn1:Hid (T.oy ss v (j+1)=T.oy ss v j+z.bS.count v):=by unfold Hid;rw[T.oy,yF]
       have xH:Hid (T.uz ss v (j+1)=(T.uz ss v j||(z.bS.contains v&&z.af==7))):=by unfold Hid;rw[T.uz,yF]
       clear yF bO;generalize T.oy ss v j=fn at *;generalize T.uz ss v j=fc at *;go_wp2;go_loopw[6,7,10] (fun n c q wr=>∃k:Nat,k<=z.bS.length/\n=.int .i64 ((cu+fn+(z.bS.take k).count v:Nat):Int)/\c=.bool (fc||((z.bS.take k).contains v&&z.af==7))/\q=.int .i64 k/\w.grownBy wr none) (fun _ _ q _=>z.bS.length-(intOf q).toNat)
       case atStart=>exact⟨0,bK _,by simp,by simp,rfl,cT.out⟩
       case round=>
        clear cT;obtain⟨k,hk,rfl,rfl,rfl,aF⟩:=hrel;obtain⟨g,z0,z1,z2,zf⟩:=(HS.out.Z aF).get j z Hz.out;by_cases yY:k<z.bS.length
        ·obtain⟨x,hx⟩:∃x,z.bS[k]?=some x:=⟨_,aT yY⟩
         have dx:=zf k x hx;obtain⟨g',-,-,d2,-⟩:=(HS.out.Z aF).get i s Hs.out;rw[Hv.out] at d2;have km:(z.bS.take k).count v<=1000:=by have:=List.count_le_length (a:=v) (l:=z.bS.take k);simp at this;omega
         have bH:=ae aF;by_cases e:x=v
         ·have b1:(x==v)=true:=by simpa using e
          have Hc:=ae (abO hx e);have Ha:=ae (aow hx e);have Ee:Hid ((fc||((z.bS.take k).contains v&&z.af==7))=false->fc=false):=fun h=>by rw[Bool.or_eq_false_iff] at h;exact h.1
          have Hct:Hid ((fc||((z.bS.take k).contains v&&z.af==7))=true->(fc||z.af==7)=true):=fun h=>by
           rw[Bool.or_eq_true] at h ⊢;rcases h with h|h
           ·exact .inl h
           ·rw[fh] at h;exact .inr h.2
          clear hx aF e zf;generalize (z.bS.take k).count v=cn at *;generalize N8:(fc||((z.bS.take k).contains v&&z.af==7))=cb at *;clear N8;go_wp2;go_quiet (fail);have iy:=ae (aC bH.out (bF wr nq none));have z0':=aG (bF wr nq none) z0;clear z0 z1 z2 dx d2;generalize wr.drewN nq=wq at *
          cases cb with
          | true=>
           have Ht:=ae (Hct.out rfl);go_wp2;go_roundw
           case rel=>exact⟨k+1,by omega,by rw[Hc.out];go_num,by rw[Ha.out,Bool.true_and,Ht.out],by go_num,iy.out⟩
           case measure=>simp[intOf];omega
          | false=>
           have Hfc:=ae (Ee.out rfl);go_wp2;go_roundw
           case rel=>exact⟨k+1,by omega,by rw[Hc.out];go_num,by rw[Ha.out,Bool.true_and,Hfc.out,Bool.false_or],by go_num,iy.out⟩
           case measure=>simp[intOf];omega
         ·have b1:(x==v)=false:=by simpa using e
          have Hc:=ae (abP hx e);have Ha:=ae (aox hx e);clear hx aF e zf;generalize (z.bS.take k).count v=cn at *;generalize (z.bS.take k).contains v=ca at *;go_wp2;go_quiet (fail);have iy:=ae (aC bH.out (bF wr nq none));go_wp2;go_roundw
          case rel=>exact⟨k+1,by omega,by rw[Hc.out],by rw[Ha.out],by go_num,iy.out⟩
          case measure=>simp[intOf];omega
        ·obtain rfl:k=z.bS.length:=by omega
         have bH:=ae aF;have Ht:Hid (z.bS.take z.bS.length=z.bS):=by unfold Hid;rw[jo]
         rw[Ht.out];clear aF zf;go_wp2;go_roundw
         case rel=>exact⟨j+1,by omega,by rw[Hn1.out,Nat.add_assoc],by rw[xH.out],by go_num,bH.out⟩
         case measure=>simp[intOf];omega
      ·obtain rfl:j=ss.length:=by omega
       obtain⟨g,z0,-,-,-⟩:=(HS.out.Z bO).get i s Hs.out;have h1:=sZ.out.1;have h2:=sZ.out.2;have cT:=ae bO;clear bO;generalize T.oy ss v ss.length=fn at *;generalize T.uz ss v ss.length=fc at *;have Is:(((cu+fn:Nat):Int)==0)=false:=by simp;omega
       by_cases n1:cu+fn=1
       ·have b1:(((cu+fn:Nat):Int)==1)=true:=by simp;omega
        cases fc with
        | false=>
         have Hn:=ae n1;clear n1 h1 h2;generalize ((cu+fn:Nat):Int)=nn at *;go_wp2;go_roundw
         case rel=>exact⟨i+1,by omega,by go_num,cT.out⟩
         case measure=>simp[intOf];omega
        | true=>
         have h7:¬s.af<=7:=fun h=>h2 ⟨n1,rfl,h⟩;clear n1 h1 h2;generalize ((cu+fn:Nat):Int)=nn at *;go_wp2;go_roundw
         case rel=>exact⟨i+1,by omega,by go_num,cT.out⟩
         case measure=>simp[intOf];omega
       ·have b1:(((cu+fn:Nat):Int)==1)=false:=by simp;omega
        clear n1 h1 h2;generalize ((cu+fn:Nat):Int)=nn at *;go_wp2;go_roundw
        case rel=>exact⟨i+1,by omega,by go_num,cT.out⟩
        case measure=>simp[intOf];omega
  ·obtain rfl:i=ss.length:=by omega
   have D3:=ae N7;clear N7;go_wp2;go_ret;exact⟨rfl,D3.out⟩
theorem abR(g0 G g2 g3:Nat)(ab fH ai ao:Option Addr)(cb cs ci co:Nat)(mk JO:Int)(bs:List H.Bf)(ss:List Sp)(is us:List Int)(w:World)
  (hB:Ej w (some ⟨g0,0,none⟩) bs) (qN:Ej w ab bs) (hS:yV w (.slice (some ⟨G,0,none⟩) ss.length ss.length) ss) (Oa:JK w fH ss) (hI:Sl w (.slice (some ⟨g2,0,none⟩) is.length is.length) is) (hI':Sl w (.slice ai is.length ci) is) (hO:Sl w (.slice (some ⟨g3,0,none⟩) us.length us.length) us) (BO:Sl w (.slice ao us.length co) us)
  (nb:bs.length<=1000) (ns:ss.length<=1000) (ni:is.length<=1000) (no:us.length<=1000) (nf:∀s∈ss,s.bS.length<=1000) :
  Calls prog 81 #[.agg #[.slice (some ⟨g0,0,none⟩) bs.length bs.length,.slice (some ⟨G,0,none⟩) ss.length ss.length,.slice (some ⟨g2,0,none⟩) is.length is.length,.slice (some ⟨g3,0,none⟩) us.length us.length,.int .i64 mk],.agg #[.slice ab bs.length cb,.slice fH ss.length cs,.slice ai is.length ci,.slice ao us.length co,.int .i64 JO]] w fun e w'=>e=.returned (.bool true)/\w.grownBy w' none:=by
 have G0:=ae (nT w (.cells #[.slice (some ⟨g0,0,none⟩) bs.length bs.length,.slice (some ⟨G,0,none⟩) ss.length ss.length,.slice (some ⟨g2,0,none⟩) is.length is.length,.slice (some ⟨g3,0,none⟩) us.length us.length,.int .i64 mk] 132) (.cells #[.slice ab bs.length cb,.slice fH ss.length cs,.slice ai is.length ci,.slice ao us.length co,.int .i64 JO] 132) none);have BA:=ae ((aj.bB w 132 #[.slice (some ⟨g0,0,none⟩) bs.length bs.length,.slice (some ⟨G,0,none⟩) ss.length ss.length,.slice (some ⟨g2,0,none⟩) is.length is.length,.slice (some ⟨g3,0,none⟩) us.length us.length,.int .i64 mk]).alloc (.cells #[.slice ab bs.length cb,.slice fH ss.length cs,.slice ai is.length ci,.slice ao us.length co,.int .i64 JO] 132));have BT:=ae (aj.yg w (.cells #[.slice (some ⟨g0,0,none⟩) bs.length bs.length,.slice (some ⟨G,0,none⟩) ss.length ss.length,.slice (some ⟨g2,0,none⟩) is.length is.length,.slice (some ⟨g3,0,none⟩) us.length us.length,.int .i64 mk] 132) 132 #[.slice ab bs.length cb,.slice fH ss.length cs,.slice ai is.length ci,.slice ao us.length co,.int .i64 JO]);obtain⟨W0,qj⟩:∃W,Hid (((w.alloc (.cells #[.slice (some ⟨g0,0,none⟩) bs.length bs.length,.slice (some ⟨G,0,none⟩) ss.length ss.length,.slice (some ⟨g2,0,none⟩) is.length is.length,.slice (some ⟨g3,0,none⟩) us.length us.length,.int .i64 mk] 132)).alloc (.cells #[.slice ab bs.length cb,.slice fH ss.length cs,.slice ai is.length ci,.slice ao us.length co,.int .i64 JO] 132))=W):=⟨_,rfl⟩;rw[qj.out] at G0 BA BT;have HB:=ae (hB.Z G0.out);have MV:=ae (qN.Z G0.out);have HS:=ae (hS.Z G0.out);have Co:=ae (Oa.Z G0.out);have HI:=ae (hI.Z G0.out);have HI':=ae (hI'.Z G0.out);have HO:=ae (hO.Z G0.out);have HO':=ae (BO.Z G0.out);have FH:=ae nf
 have jk:=ae (Jp (some ⟨g2,0,none⟩) ai is.length is.length is.length ci is is W0 HI.out HI'.out (by omega) (by omega));clear hB qN hS Oa hI hI' hO BO nf;have eI:decide (is=is)=true:=eG rfl;have eO:decide (us=us)=true:=eG rfl;have JP:((bs.length:Int) != (bs.length:Int))=false:=by simp
 have ns1:((ss.length:Int) != (ss.length:Int))=false:=by simp
 have nb2:((bs.length:Int)==(bs.length:Int))=true:=by simp
 have ns2:((ss.length:Int)==(ss.length:Int))=true:=by simp
 have ni2:((is.length:Int)==(is.length:Int))=true:=by simp
 have no2:((us.length:Int)==(us.length:Int))=true:=by simp
 have a0:W0.cell? ⟨w.heap.size,0,none⟩=some (.slice (some ⟨g0,0,none⟩) bs.length bs.length):=BA.out.cell 0;have a1:W0.cell? ⟨w.heap.size,1,none⟩=some (.slice (some ⟨G,0,none⟩) ss.length ss.length):=BA.out.cell 1;have a2:W0.cell? ⟨w.heap.size,2,none⟩=some (.slice (some ⟨g2,0,none⟩) is.length is.length):=BA.out.cell 2;have a3:W0.cell? ⟨w.heap.size,3,none⟩=some (.slice (some ⟨g3,0,none⟩) us.length us.length):=BA.out.cell 3;have t0:W0.cell? ⟨w.heap.size+1,0,none⟩=some (.slice ab bs.length cb):=BT.out.cell 0;have t1:W0.cell? ⟨w.heap.size+1,1,none⟩=some (.slice fH ss.length cs):=BT.out.cell 1;have t2:W0.cell? ⟨w.heap.size+1,2,none⟩=some (.slice ai is.length ci):=BT.out.cell 2;have t3:W0.cell? ⟨w.heap.size+1,3,none⟩=some (.slice ao us.length co):=BT.out.cell 3;have iW:=ae (fun nd=>Jp (some ⟨g3,0,none⟩) ao us.length us.length us.length co us us (W0.drewN nd) (HO.out.Z (bF W0 nd none)) (HO'.out.Z (bF W0 nd none)) (by omega) (by omega));have Ha0:=ae a0;have Ha1:=ae a1;have Ha2:=ae a2;have Ha3:=ae a3;have Ht0:=ae t0;have Ht1:=ae t1;go_enter func81,ntmps81;go_wp2_with fail;rw[qj.out];refine jk.out.mono ?_;rintro e w1⟨rfl,JQ,rfl⟩;rw[eI];go_wp2_with fail;refine(iW.out JQ).mono ?_;rintro e w2⟨rfl,Ob,rfl⟩;rw[eO,World.drewN_drewN];have Gd:=bF W0 (JQ+Ob) none;have Ga:=ae (aC G0.out Gd);have b0:=aG Gd a0;have b1:=aG Gd a1;have b2:=aG Gd a2;have b3:=aG Gd a3;have s0:=aG Gd t0;have s1:=aG Gd t1;have sU:=ae (HB.out.Z Gd);have aoI:=ae (MV.out.Z Gd);have HSd:=ae (HS.out.Z Gd);have aoK:=ae (Co.out.Z Gd);clear a0 a1 a2 a3 t0 t1 t2 t3 Gd jk iW HB MV HS Co HI HI' HO HO' BA BT qj Ha0 Ha1 Ha2 Ha3 Ht0 Ht1 G0;generalize W0.drewN (JQ+Ob)=W at *;have Hb0:=ae b0;have Hb1:=ae b1;have Hb2:=ae b2;have Hb3:=ae b3;have Hs0:=ae s0;have Ek:=ae s1;go_wp2;clear b0 b1 b2 b3 s0 s1
 go_loopw[7] (fun i wr=>∃k:Nat,k<=bs.length/\i=.int .i64 k/\W.grownBy wr none) (fun i _=>bs.length-(intOf i).toNat)
 case atStart=>exact⟨0,bK _,rfl,gL _ _⟩
 case round=>
  obtain⟨k,hk,rfl,aF⟩:=hrel;have b0:=aG aF Hb0.out;by_cases aK:k<bs.length
  ·obtain⟨x,hx⟩:∃x,bs[k]?=some x:=⟨_,aT aK⟩
   have s0:=aG aF Hs0.out;obtain⟨_,ea,d0,d1⟩:=(sU.out.Z aF) k x hx;injection ea with ea;injection ea with ea;subst ea;obtain⟨gb,rfl,e0,e1⟩:=(aoI.out.Z aF) k x hx;have bH:=ae aF;obtain⟨xa,xc⟩:=x;simp only at d0 d1 e0 e1;have dL:(xa != xa)=false:=by simp
   have im:(xc != xc)=false:=by simp
   clear hx aF;go_wp2;go_quiet (fail);have iy:=ae (aC bH.out (bF wr nq none));go_wp2;go_roundw
   case rel=>exact⟨k+1,by omega,by go_num,iy.out⟩
   case measure=>simp[intOf];omega
  ·obtain rfl:k=bs.length:=by omega
   have bH:=ae aF;clear aF;go_wp2;clear b0;go_loopw[8] (fun i wr=>∃k:Nat,k<=ss.length/\i=.int .i64 k/\W.grownBy wr none) (fun i _=>ss.length-(intOf i).toNat)
   case atStart=>exact⟨0,bK _,rfl,bH.out⟩
   case round=>
    clear bH;obtain⟨k,hk,rfl,aF⟩:=hrel;have b1:=aG aF Hb1.out;by_cases aK:k<ss.length
    ·obtain⟨x,hx⟩:∃x,ss[k]?=some x:=⟨_,aT aK⟩
     have s1:=aG aF Ek.out;obtain⟨gf,d0,d1,d2,qT⟩:=(HSd.out.Z aF).get k x hx;obtain⟨kF,bf,cf,rfl,e0,e1,e2,NX⟩:=(aoK.out.Z aF) k x hx;have Eg:=FH.out x (bV hx);have pI:Sl wr (.slice (some ⟨gf,0,none⟩) x.bS.length x.bS.length) x.bS:=⟨_,_,rfl,fun i y hy=>⟨_,rfl,by rw[wQ];exact qT i y hy⟩⟩;have HC:=ae (fun nd=>Jp (some ⟨gf,0,none⟩) bf x.bS.length x.bS.length x.bS.length cf x.bS x.bS (wr.drewN nd) (pI.Z (bF wr nd none)) (NX.Z (bF wr nd none)) (by omega) (by omega));have bH:=ae aF;obtain⟨xk,xf,xt⟩:=x;simp only at d0 d1 d2 e0 e1 e2 HC Eg;have HC':Hid (∀nd,Calls prog 47 #[.slice (some ⟨gf,0,none⟩) xf.length xf.length,.slice bf xf.length cf] (wr.drewN nd) fun e w'=>e=.returned (.bool true)/\∃m,w'=(wr.drewN nd).drewN m):=fun nd=>(HC.out nd).mono fun _ _ ⟨h1,h2⟩=>⟨by rw[h1];simp,h2⟩;have dL:(xk != xk)=false:=by simp
     have im:(xt != xt)=false:=by simp
     have gU:((xf.length:Int) != (xf.length:Int))=false:=by simp
     clear hx aF qT NX pI HC;go_wp2_with fail;go_quiet (exact Calls.quiet_of (HC'.out _));have gq:=bF wr nq none;have iy:=ae (aC bH.out gq);have b1':=aG gq b1;have s1':=aG gq s1;have AN:=aG gq d0;have N5:=aG gq d1;have d2':=aG gq d2;have e0':=aG gq e0;have Nj:=aG gq e1;have e2':=aG gq e2;clear gq b1 s1 d0 d1 d2 e0 e1 e2 HC' bH;generalize wr.drewN nq=wq at *;go_wp2;go_quiet (fail);have xF:=ae (aC iy.out (bF wq nq none));go_wp2;go_roundw
     case rel=>exact⟨k+1,by omega,by go_num,xF.out⟩
     case measure=>simp[intOf];omega
    ·obtain rfl:k=ss.length:=by omega
     have b0:=aG aF Hb0.out;have b2:=aG aF Hb2.out;have b3:=aG aF Hb3.out;have bH:=ae (aC Ga.out aF);clear aF;go_wp2;go_ret;exact⟨rfl,bH.out⟩
end Go.Proofs.YtcnhfffgbamonabGreat
