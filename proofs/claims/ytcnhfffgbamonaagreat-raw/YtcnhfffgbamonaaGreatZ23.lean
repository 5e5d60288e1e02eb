import Derived.Test.YtcnhfffgbamonaaGreatZ22
set_option maxRecDepth 100000
set_option maxHeartbeats 6400000
namespace Go.Proofs.YtcnhfffgbamonaaGreat
open Go.Proofs.Tryz
open RowKit
theorem Ts.Z{w w':World}{base:Nat}{v:Value}{tl:List Td}(h:Ts w base v tl)(hg:w.grownBy w' none):Ts w' base v tl:=⟨eY h.1 hg,fun t ht=>(h.2 t ht).Z hg⟩
theorem acy(b base:Nat)(a:Option Addr)(n c:Nat)(tl:List Td)(w:World)(hc:w.cell? ⟨b,7,none⟩=some (.slice a n c))(hT:Ts w base (.slice a n c) tl)(hl:tl.length<=1000000000):
 Calls prog 42 #[.pointer (some ⟨b,0,none⟩)] w fun e w'=>e=.returned (.bool true)/\w.grownBy w' none:=by
 have hn:n=tl.length:=by obtain⟨ao,c',e⟩:=gP hT.1;injection e with _ e _
 subst hn;have HT:=ae hT;have Hc:=ae hc;clear hT;go_enter func42,ntmps42;go_wp2;clear hc;go_loopw[3] (fun i wr=>∃k:Nat,k<=tl.length/\i=.int .i64 k/\w.grownBy wr none) (fun i _=>tl.length-(intOf i).toNat)
 case atStart=>exact⟨0,bK _,rfl,fZ _ _⟩
 case round=>
  obtain⟨k,hk,rfl,aF⟩:=hrel;have hc:=aG aF Hc.out;by_cases aJ:k<tl.length
  ·obtain⟨t,ht⟩:∃t,tl[k]?=some t:=⟨_,aS aJ⟩
   obtain⟨g,rfl,-,-,d0,d1,d2,d3,d4,hS⟩:=(HT.out.Z aF).row ht;have hm0:=hS.m0;have NL:=hS.m1;have Sk:=hS.pd.1;have hf2:=hS.pd.2.1;have hf3:=hS.pd.2.2.1;have hf4:=hS.pd.2.2.2;obtain⟨g0,nb,G,gs,g2,ni,g3,no,mark⟩:=t;simp only at d0 d1 d2 d3 d4 hm0 NL Sk hf2 hf3 hf4;have HS:=ae hS;have HG:=ae aF;have jq:=ae (fun nd=>Sy (some ⟨g2,0,none⟩) ni ni _ (mark+1) (wr.drewN nd) (Tl (HS.out.Z (bE wr nd none)).i) (by simp;omega) (by omega) (by omega) Tm);have w1:IntKind.i64.wrap (mark+1)=mark+1:=by rw[cU];omega
   have w2:IntKind.i64.wrap (mark+2)=mark+2:=by rw[cU];omega
   have w3:IntKind.i64.wrap (-mark) = -mark:=by rw[cU];omega
   have JR:(-mark !=-mark)=false:=by simp
   have ax9:(-mark-3 !=-mark-3)=false:=by simp
   clear ht hS aF;go_wp2_with fail;go_quiet(exact mU (jq.out _));have gq:=bE wr nq none;have dN:=ae (aC HG.out gq);have jA:=ae (HS.out.Z gq);have c0:=aG gq d0;have c1:=aG gq d1;have c3:=aG gq d3;have c4:=aG gq d4;clear gq HG HS d0 d1 d2 d3 d4 hc jq;generalize wr.drewN nq=wa at *;have jd:=ae (fun nd=>Sy (some ⟨g3,0,none⟩) no no _ (mark+2) (wa.drewN nd) (Tl (jA.out.Z (bE wa nd none)).o) (by simp;omega) (by omega) (by omega) Tm);go_wp2_with fail;go_quiet(exact mU (jd.out _));have gq:=bE wa nq none;have dU:=ae (aC dN.out gq);have gL:=ae (jA.out.Z gq);have d0:=aG gq c0;have d1:=aG gq c1;have d4:=aG gq c4;clear gq dN jA c0 c1 c3 c4 jd;generalize wa.drewN nq=wb at *;have D0:=ae d0;have D1:=ae d1;have D4:=ae d4;go_wp2;clear d0 d1 d4;go_loopw[7] (fun i wr=>∃q:Nat,q<=nb/\i=.int .i64 q/\wb.grownBy wr none) (fun i _=>nb-(intOf i).toNat)
   case atStart=>exact⟨0,bK _,rfl,fZ _ _⟩
   case round=>
    obtain⟨q,hq,rfl,jo⟩:=hrel;have d0:=aG jo D0.out;have d4:=aG jo D4.out;by_cases apt:q<nb
    ·obtain⟨x0,x1⟩:=(gL.out.Z jo).apn apt
     simp only at x0 x1;have iy:=ae jo;clear jo;go_wp2;go_quiet(fail);have xW:=ae (aC iy.out (bE wr nq none));go_wp2;go_roundw
     case rel=>exact⟨q+1,by omega,by go_num,xW.out⟩
     case measure=>simp[intOf];omega
    ·obtain rfl:q=nb:=by omega
     have iy:=ae jo;clear jo;go_wp2;clear d0 d4;go_loopw[8] (fun i wr=>∃q:Nat,q<=gs.length/\i=.int .i64 q/\wb.grownBy wr none) (fun i _=>gs.length-(intOf i).toNat)
     case atStart=>exact⟨0,bK _,rfl,iy.out⟩
     case round=>
      clear iy;obtain⟨r,hr,rfl,zy⟩:=hrel;have d1:=aG zy D1.out;have d4:=aG zy D4.out;by_cases apu:r<gs.length
      ·obtain⟨p,hp⟩:∃p,gs[r]?=some p:=⟨_,aS apu⟩
       have zA:=gL.out.Z zy;obtain⟨x0,x1,x2⟩:=zA.gV (k:=r) (p:=p) hp;have tF:=zA.acx p (bU hp);have F8:=zA.f r p hp;obtain⟨pg,pn⟩:=p;simp only at x0 x1 x2 tF F8;have HP:=ae F8;have sx:=ae (fun nd=>Sy (some ⟨pg,0,none⟩) pn pn _ (mark+4+r) (wr.drewN nd) (Tl (HP.out.kept (bE wr nd none) (by simp))) (by simp;omega) (by omega) (by omega) Tm);have w4:IntKind.i64.wrap (mark+4)=mark+4:=by rw[cU];omega
       have w5:IntKind.i64.wrap (mark+4+(r:Int))=mark+4+(r:Int):=by rw[cU];omega
       have w6:IntKind.i64.wrap (-mark-3) = -mark-3:=by rw[cU];omega
       have xW:=ae zy;clear zA hp F8 zy;go_wp2_with fail;go_quiet(exact mU (sx.out _));have gq:=bE wr nq none;have NC:=ae (aC xW.out gq);have e1:=aG gq d1;have e4:=aG gq d4;have y0:=aG gq x0;have y1:=aG gq x1;have y2:=aG gq x2;clear gq d1 d4 x0 x1 x2 xW HP sx;generalize wr.drewN nq=wt at *;go_wp2;go_quiet(fail);have HGu:=ae (aC NC.out (bE wt nq none));go_wp2;go_roundw
       case rel=>exact⟨r+1,by omega,by go_num,HGu.out⟩
       case measure=>simp[intOf];omega
      ·obtain rfl:r=gs.length:=by omega
       have xW:=ae (aC dU.out zy);clear zy;go_wp2;go_roundw
       case rel=>exact⟨k+1,by omega,by go_num,xW.out⟩
       case measure=>simp[intOf];omega
  ·obtain rfl:k=tl.length:=by omega
   have HG:=ae aF;clear aF;go_wp2;go_ret;exact⟨rfl,HG.out⟩
theorem CP{w:World}{g tt:Nat}{xs:List H.Bf}(hB:aj w g tt (xs.flatMap gm).toArray){i:Nat}(h:i<xs.length):
  w.cell? ⟨g,i*2,none⟩=some (.int .i64 (xs.getD i H.aV).a)/\w.cell? ⟨g,i*2+1,none⟩=some (.int .i64 (xs.getD i H.aV).c):=by
 have e:xs[i]?=some (xs.getD i H.aV):=by rw[List.getD,aS h];rfl
 have cF:∀j,j<2->w.cell? ⟨g,i*2+j,none⟩=(gm (xs.getD i H.aV))[j]?:=by
  intro j hj;rw[hB.cell (i*2+j),nP];exact lP gm 2 (fun _=>rfl) xs i j _ e hj
 exact⟨cF 0 (by omega),cF 1 (by omega)⟩
def EH(w:World)(a:Option Addr)(bs:List H.Bf):Prop:=
 ∀(i:Nat) x,bs[i]?=some x->∃g,a=some ⟨g,0,none⟩/\w.cell? ⟨g,i*2,none⟩=some (.int .i64 x.a)/\w.cell? ⟨g,i*2+1,none⟩=some (.int .i64 x.c)
theorem EH.Z{w w':World}{a:Option Addr}{bs:List H.Bf}(h:EH w a bs)(hg:w.grownBy w' none):EH w' a bs:=fun i x hx=>by
 obtain⟨g,e,h1,h2⟩:=h i x hx;exact⟨g,e,aG hg h1,aG hg h2⟩
theorem acA{w:World}{g tt:Nat}{bs:List H.Bf}(hB:aj w g tt (bs.flatMap gm).toArray):EH w (some ⟨g,0,none⟩) bs:=fun i x hx=>by
 have hl:=M.bP hx;have e:bs.getD i H.aV=x:=by rw[List.getD,hx];rfl
 have:=CP hB hl;rw[e] at this;exact⟨g,rfl,this.1,this.2⟩
def Kh(w:World)(a:Option Addr)(ss:List Sp):Prop:=
 ∀(i:Nat) s,ss[i]?=some s->∃G b c,a=some ⟨G,0,none⟩/\w.cell? ⟨G,i*3,none⟩=some (.int .i64 s.af)/\w.cell? ⟨G,i*3+1,none⟩=some (.slice b s.bS.length c)/\w.cell? ⟨G,i*3+2,none⟩=some (.int .i64 s.to)/\Sl w (.slice b s.bS.length c) s.bS
theorem Kh.Z{w w':World}{a:Option Addr}{ss:List Sp}(h:Kh w a ss)(hg:w.grownBy w' none):Kh w' a ss:=fun i s hs=>by
 obtain⟨G,b,c,e,h1,h2,h3,h4⟩:=h i s hs;exact⟨G,b,c,e,aG hg h1,aG hg h2,aG hg h3,h4.Z hg⟩
def acB(B:Nat)(w w':World):Prop:=∀k,B<=k->k<w.heap.size->w'.heap[k]?=w.heap[k]?
theorem Gc{w w':World}{base B size n:Nat}{e:TypeId}{v:Value}{xs:List Value}(ho:w.ownsRow base e size v n xs)(hb:B<=base)(h:acB B w w'):w'.ownsRow base e size v n xs:=by
 refine⟨ho.1,?_⟩;rcases ho.2 with h' |⟨g,cap,dY,rfl,xm,hg,hr⟩
 ·exact .inl h'
 ·refine .inr ⟨g,cap,dY,rfl,xm,?_,hr⟩
  have hl:g<w.heap.size:=by
   rcases cE g w.heap.size with aJ|A7
   ·exact aJ
   ·rw[Array.getElem?_eq_none A7] at hg;cases hg
  rw[h g (by omega) hl];exact hg
structure tJ(w:World)(B:Nat)(ab fJ ai ao:Option Addr)(cb cs ci co:Nat)(bs:List H.Bf)(ss:List Sp)(is us:List Int):Prop where
 b:w.ownsRow B 125 2 (.slice ab bs.length cb) bs.length (bs.flatMap gm)
 s:∃ps:List (Sp×Nat),ps.map (·.1)=ss/\w.ownsRow B 152 3 (.slice fJ ss.length cs) ss.length (ps.flatMap fun p=>sg p.2 p.1)/\∀p∈ps,aZ w B (cT p.2 p.1.bS) p.1.bS
 i:aZ w B (.slice ai is.length ci) is
 o:aZ w B (.slice ao us.length co) us
theorem tJ.apz{w w':World}{B:Nat}{ab fJ ai ao:Option Addr}{cb cs ci co:Nat}{bs:List H.Bf}{ss:List Sp}{is us:List Int}(h:tJ w B ab fJ ai ao cb cs ci co bs ss is us)(ha:acB B w w'):tJ w' B ab fJ ai ao cb cs ci co bs ss is us:=by
 obtain⟨h1,⟨ps,p1,p2,p3⟩,h3,h4⟩:=h;exact⟨Gc h1 (bj _) ha,⟨ps,p1,Gc p2 (bj _) ha,fun p hp=>Gc (p3 p hp) (bj _) ha⟩,Gc h3 (bj _) ha,Gc h4 (bj _) ha⟩
theorem tJ.bsl{w:World}{B:Nat}{ab fJ ai ao:Option Addr}{cb cs ci co:Nat}{bs:List H.Bf}{ss:List Sp}{is us:List Int}(h:tJ w B ab fJ ai ao cb cs ci co bs ss is us):EH w ab bs:=fun i x hx=>by
 have hl:=M.bP hx;obtain⟨g,ha,hb,hn,hc⟩:=nE h.b (by omega);have cF:∀j,j<2->w.cell? ⟨g,i*2+j,none⟩=(gm x)[j]?:=by
  intro j hj;rw[hc _ (by omega)];exact lP gm 2 (fun _=>rfl) bs i j x hx hj
 exact⟨g,ha,cF 0 (by omega),cF 1 (by omega)⟩
theorem tJ.stq{w:World}{B:Nat}{ab fJ ai ao:Option Addr}{cb cs ci co:Nat}{bs:List H.Bf}{ss:List Sp}{is us:List Int}(h:tJ w B ab fJ ai ao cb cs ci co bs ss is us):Kh w fJ ss:=fun i s hs=>by
 obtain⟨ps,p1,p2,p3⟩:=h.s;have hl:=M.bP hs;obtain⟨g,ha,hb,hn,hc⟩:=nE p2 (by omega);subst p1;rw[dV] at hs;obtain⟨p,hp,rfl⟩:=Option.map_eq_some_iff.1 hs;have cF:∀j,j<3->w.cell? ⟨g,i*3+j,none⟩=(sg p.2 p.1)[j]?:=by
  intro j hj;rw[hc _ (by omega)];exact lP (fun p:Sp×Nat=>sg p.2 p.1) 3 (fun _=>rfl) ps i j p hp hj
 exact⟨g,_,_,ha,cF 0 (by omega),cF 1 (by omega),cF 2 (by omega),(p3 p (bU hp)).sl⟩
theorem acL{l:List Int}{k:Nat}{x v:Int}(h:l[k]?=some x)(e:x=v):(l.take (k+1)).count v=(l.take k).count v+1:=by
 rw[H.kd h,List.count_append,e];simp
theorem acM{l:List Int}{k:Nat}{x v:Int}(h:l[k]?=some x)(e:¬x=v):(l.take (k+1)).count v=(l.take k).count v:=by
 rw[H.kd h,List.count_append,List.count_singleton,ak (by simpa using e)];rfl
theorem apE{l:List Int}{k:Nat}{x v:Int}(h:l[k]?=some x)(e:x=v):(l.take (k+1)).contains v=true:=by
 rw[H.kd h];simp[e]
theorem apF{l:List Int}{k:Nat}{x v:Int}(h:l[k]?=some x)(e:¬x=v):(l.take (k+1)).contains v=(l.take k).contains v:=by
 rw[H.kd h];simp;exact fun h=>aN h.symm e
theorem acN{ss:List Sp}{v:Int}(hf:∀s∈ss,s.bS.length<=1000):∀j,j<=ss.length->T.oH ss v j<=1000*j
 |0,_=>bj _
 |j+1,hj=>by
  have ih:=acN (v:=v) hf j (by omega);have hx:ss[j]?=some ss[j]:=aS (by omega);have h1:=hf _ (bU hx);have h2:=List.count_le_length (a:=v) (l:=(ss[j]).bS);rw[T.oH,hx];show T.oH ss v j+(ss[j]).bS.count v<=_;omega
theorem apG(G go co:Nat)(ss:List Sp)(us:List Int)(w:World)(hS:zB w (.slice (some ⟨G,0,none⟩) ss.length ss.length) ss)(hU:Sl w (.slice (some ⟨go,0,none⟩) us.length co) us)(hs:ss.length<=1000)(hu:us.length<=1000)(hf:∀s∈ss,s.bS.length<=1000)(ok:T.Oy ss us):
 Calls prog 80 #[.slice (some ⟨G,0,none⟩) ss.length ss.length,.slice (some ⟨go,0,none⟩) us.length co] w fun e w'=>e=.returned (.bool true)/\w.grownBy w' none:=by
 have HS:=ae hS;have HU:=ae hU;have jx:=ae ok;have Hf:=ae hf;clear hS hU ok hf;go_enter func80,ntmps80;go_wp2;go_loopw[5] (fun i wr=>∃k:Nat,k<=ss.length/\i=.int .i64 k/\w.grownBy wr none) (fun i _=>ss.length-(intOf i).toNat)
 case atStart=>exact⟨0,bK _,rfl,fZ _ _⟩
 case round=>
  obtain⟨i,hi,rfl,OH⟩:=hrel;by_cases aJ:i<ss.length
  ·obtain⟨s,jJ⟩:∃s,ss[i]?=some s:=⟨_,aS aJ⟩
   have Hs:=ae jJ;have Eo:=ae OH;obtain⟨v,Hv⟩:∃v,Hid (s.to=v):=⟨_,rfl⟩;clear jJ OH;go_wp2;go_loopw[6,8] (fun n q wr=>∃k:Nat,k<=us.length/\n=.int .i64 ((us.take k).count v:Nat)/\q=.int .i64 k/\w.grownBy wr none) (fun _ q _=>us.length-(intOf q).toNat)
   case atStart=>exact⟨0,bK _,by simp,rfl,Eo.out⟩
   case round=>
    clear Eo;obtain⟨k,hk,rfl,rfl,aF⟩:=hrel;by_cases zE:k<us.length
    ·obtain⟨x,hx⟩:∃x,us[k]?=some x:=⟨_,aS zE⟩
     obtain⟨a,ea,dx⟩:=(HU.out.Z aF).get k x hx;injection ea with ea;subst ea;rw[vy] at dx;obtain⟨g,-,-,d2,-⟩:=(HS.out.Z aF).get i s Hs.out;rw[Hv.out] at d2;have kz:(us.take k).count v<=1000:=by have:=List.count_le_length (a:=v) (l:=us.take k);simp at this;omega
     have bH:=ae aF;by_cases e:x=v
     ·have b1:(x==v)=true:=by simpa using e
      have Hc:=ae (acL hx e);clear hx aF e;generalize (us.take k).count v=cn at *;go_wp2;go_quiet(fail);have iy:=ae (aC bH.out (bE wr nq none));go_wp2;go_roundw
      case rel=>exact⟨k+1,by omega,by rw[Hc.out];go_num,by go_num,iy.out⟩
      case measure=>simp[intOf];omega
     ·have b1:(x==v)=false:=by simpa using e
      have Hc:=ae (acM hx e);clear hx aF e;generalize (us.take k).count v=cn at *;go_wp2;go_quiet(fail);have iy:=ae (aC bH.out (bE wr nq none));go_wp2;go_roundw
      case rel=>exact⟨k+1,by omega,by rw[Hc.out],by go_num,iy.out⟩
      case measure=>simp[intOf];omega
    ·obtain rfl:k=us.length:=by omega
     have bH:=ae aF;have Ht:Hid ((us.take us.length).count v=us.count v):=by rw[jm];rfl
     rw[Ht.out];have kz:us.count v<=1000:=by have:=List.count_le_length (a:=v) (l:=us);omega
     have Tp:=jx.out i s Hs.out;rw[Hv.out] at Tp;have tE:=ae Tp;clear aF Tp;generalize us.count v=cu at *;go_wp2;go_loopw[6,7,9] (fun n c q wr=>∃j:Nat,j<=ss.length/\n=.int .i64 ((cu+T.oH ss v j:Nat):Int)/\c=.bool (T.uL ss v j)/\q=.int .i64 j/\w.grownBy wr none) (fun _ _ q _=>ss.length-(intOf q).toNat)
     case atStart=>exact⟨0,bK _,rfl,rfl,rfl,bH.out⟩
     case round=>
      clear bH;obtain⟨j,hj,rfl,rfl,rfl,bO⟩:=hrel;have hfn:=acN (v:=v) Hf.out j hj;by_cases Gf:j<ss.length
      ·obtain⟨z,xM⟩:∃z,ss[j]?=some z:=⟨_,aS Gf⟩
       have wH:=Hf.out z (bU xM);have Hz:=ae xM;have cV:=ae bO;have Hn1:Hid (T.oH ss v (j+1)=T.oH ss v j+z.bS.count v):=by unfold Hid;rw[T.oH,xM]
       have xY:Hid (T.uL ss v (j+1)=(T.uL ss v j||(z.bS.contains v&&z.af==7))):=by unfold Hid;rw[T.uL,xM]
       clear xM bO;generalize T.oH ss v j=fn at *;generalize T.uL ss v j=fc at *;go_wp2;go_loopw[6,7,10] (fun n c q wr=>∃k:Nat,k<=z.bS.length/\n=.int .i64 ((cu+fn+(z.bS.take k).count v:Nat):Int)/\c=.bool (fc||((z.bS.take k).contains v&&z.af==7))/\q=.int .i64 k/\w.grownBy wr none) (fun _ _ q _=>z.bS.length-(intOf q).toNat)
       case atStart=>exact⟨0,bK _,by simp,by simp,rfl,cV.out⟩
       case round=>
        clear cV;obtain⟨k,hk,rfl,rfl,rfl,aF⟩:=hrel;obtain⟨g,z0,z1,z2,zf⟩:=(HS.out.Z aF).get j z Hz.out;by_cases zE:k<z.bS.length
        ·obtain⟨x,hx⟩:∃x,z.bS[k]?=some x:=⟨_,aS zE⟩
         have dx:=zf k x hx;obtain⟨g',-,-,d2,-⟩:=(HS.out.Z aF).get i s Hs.out;rw[Hv.out] at d2;have kz:(z.bS.take k).count v<=1000:=by have:=List.count_le_length (a:=v) (l:=z.bS.take k);simp at this;omega
         have bH:=ae aF;by_cases e:x=v
         ·have b1:(x==v)=true:=by simpa using e
          have Hc:=ae (acL hx e);have Ha:=ae (apE hx e);have EC:Hid ((fc||((z.bS.take k).contains v&&z.af==7))=false->fc=false):=fun h=>by rw[Bool.or_eq_false_iff] at h;exact h.1
          have Hct:Hid ((fc||((z.bS.take k).contains v&&z.af==7))=true->(fc||z.af==7)=true):=fun h=>by
           rw[Bool.or_eq_true] at h ⊢;rcases h with h|h
           ·exact .inl h
           ·rw[eX] at h;exact .inr h.2
          clear hx aF e zf;generalize (z.bS.take k).count v=cn at *;generalize OI:(fc||((z.bS.take k).contains v&&z.af==7))=cb at *;clear OI;go_wp2;go_quiet(fail);have iy:=ae (aC bH.out (bE wr nq none));have z0':=aG (bE wr nq none) z0;clear z0 z1 z2 dx d2;generalize wr.drewN nq=wq at *
          cases cb with
          |true=>
           have Ht:=ae (Hct.out rfl);go_wp2;go_roundw
           case rel=>exact⟨k+1,by omega,by rw[Hc.out];go_num,by rw[Ha.out,Bool.true_and,Ht.out],by go_num,iy.out⟩
           case measure=>simp[intOf];omega
          |false=>
           have Hfc:=ae (EC.out rfl);go_wp2;go_roundw
           case rel=>exact⟨k+1,by omega,by rw[Hc.out];go_num,by rw[Ha.out,Bool.true_and,Hfc.out,Bool.false_or],by go_num,iy.out⟩
           case measure=>simp[intOf];omega
         ·have b1:(x==v)=false:=by simpa using e
          have Hc:=ae (acM hx e);have Ha:=ae (apF hx e);clear hx aF e zf;generalize (z.bS.take k).count v=cn at *;generalize (z.bS.take k).contains v=ca at *;go_wp2;go_quiet(fail);have iy:=ae (aC bH.out (bE wr nq none));go_wp2;go_roundw
          case rel=>exact⟨k+1,by omega,by rw[Hc.out],by rw[Ha.out],by go_num,iy.out⟩
          case measure=>simp[intOf];omega
        ·obtain rfl:k=z.bS.length:=by omega
         have bH:=ae aF;have Ht:Hid (z.bS.take z.bS.length=z.bS):=by unfold Hid;rw[jm]
         rw[Ht.out];clear aF zf;go_wp2;go_roundw
         case rel=>exact⟨j+1,by omega,by rw[Hn1.out,Nat.add_assoc],by rw[xY.out],by go_num,bH.out⟩
         case measure=>simp[intOf];omega
      ·obtain rfl:j=ss.length:=by omega
       obtain⟨g,z0,-,-,-⟩:=(HS.out.Z bO).get i s Hs.out;have h1:=tE.out.1;have h2:=tE.out.2;have cV:=ae bO;clear bO;generalize T.oH ss v ss.length=fn at *;generalize T.uL ss v ss.length=fc at *;have IU:(((cu+fn:Nat):Int)==0)=false:=by simp;omega
       by_cases n1:cu+fn=1
       ·have b1:(((cu+fn:Nat):Int)==1)=true:=by simp;omega
        cases fc with
        |false=>
         have Hn:=ae n1;clear n1 h1 h2;generalize ((cu+fn:Nat):Int)=nn at *;go_wp2;go_roundw
         case rel=>exact⟨i+1,by omega,by go_num,cV.out⟩
         case measure=>simp[intOf];omega
        |true=>
         have h7:¬s.af<=7:=fun h=>h2 ⟨n1,rfl,h⟩;clear n1 h1 h2;generalize ((cu+fn:Nat):Int)=nn at *;go_wp2;go_roundw
         case rel=>exact⟨i+1,by omega,by go_num,cV.out⟩
         case measure=>simp[intOf];omega
       ·have b1:(((cu+fn:Nat):Int)==1)=false:=by simp;omega
        clear n1 h1 h2;generalize ((cu+fn:Nat):Int)=nn at *;go_wp2;go_roundw
        case rel=>exact⟨i+1,by omega,by go_num,cV.out⟩
        case measure=>simp[intOf];omega
  ·obtain rfl:i=ss.length:=by omega
   have Eo:=ae OH;clear OH;go_wp2;go_ret;exact⟨rfl,Eo.out⟩
theorem acO(g0 G g2 g3:Nat)(ab fJ ai ao:Option Addr)(cb cs ci co:Nat)(mk Km:Int)(bs:List H.Bf)(ss:List Sp)(is us:List Int)(w:World)
  (hB:EH w (some ⟨g0,0,none⟩) bs) (qZ:EH w ab bs) (hS:zB w (.slice (some ⟨G,0,none⟩) ss.length ss.length) ss) (OJ:Kh w fJ ss) (hI:Sl w (.slice (some ⟨g2,0,none⟩) is.length is.length) is) (hI':Sl w (.slice ai is.length ci) is) (hO:Sl w (.slice (some ⟨g3,0,none⟩) us.length us.length) us) (Cd:Sl w (.slice ao us.length co) us)
  (nb:bs.length<=1000) (ns:ss.length<=1000) (ni:is.length<=1000) (no:us.length<=1000) (nf:∀s∈ss,s.bS.length<=1000):
 Calls prog 82 #[.agg #[.slice (some ⟨g0,0,none⟩) bs.length bs.length,.slice (some ⟨G,0,none⟩) ss.length ss.length,.slice (some ⟨g2,0,none⟩) is.length is.length,.slice (some ⟨g3,0,none⟩) us.length us.length,.int .i64 mk],.agg #[.slice ab bs.length cb,.slice fJ ss.length cs,.slice ai is.length ci,.slice ao us.length co,.int .i64 Km]] w fun e w'=>e=.returned (.bool true)/\w.grownBy w' none:=by
 have G0:=ae (nZ w (.cells #[.slice (some ⟨g0,0,none⟩) bs.length bs.length,.slice (some ⟨G,0,none⟩) ss.length ss.length,.slice (some ⟨g2,0,none⟩) is.length is.length,.slice (some ⟨g3,0,none⟩) us.length us.length,.int .i64 mk] 119) (.cells #[.slice ab bs.length cb,.slice fJ ss.length cs,.slice ai is.length ci,.slice ao us.length co,.int .i64 Km] 119) none);have BA:=ae ((aj.bA w 119 #[.slice (some ⟨g0,0,none⟩) bs.length bs.length,.slice (some ⟨G,0,none⟩) ss.length ss.length,.slice (some ⟨g2,0,none⟩) is.length is.length,.slice (some ⟨g3,0,none⟩) us.length us.length,.int .i64 mk]).alloc (.cells #[.slice ab bs.length cb,.slice fJ ss.length cs,.slice ai is.length ci,.slice ao us.length co,.int .i64 Km] 119));have BT:=ae (aj.yA w (.cells #[.slice (some ⟨g0,0,none⟩) bs.length bs.length,.slice (some ⟨G,0,none⟩) ss.length ss.length,.slice (some ⟨g2,0,none⟩) is.length is.length,.slice (some ⟨g3,0,none⟩) us.length us.length,.int .i64 mk] 119) 119 #[.slice ab bs.length cb,.slice fJ ss.length cs,.slice ai is.length ci,.slice ao us.length co,.int .i64 Km]);obtain⟨W0,qy⟩:∃W,Hid (((w.alloc (.cells #[.slice (some ⟨g0,0,none⟩) bs.length bs.length,.slice (some ⟨G,0,none⟩) ss.length ss.length,.slice (some ⟨g2,0,none⟩) is.length is.length,.slice (some ⟨g3,0,none⟩) us.length us.length,.int .i64 mk] 119)).alloc (.cells #[.slice ab bs.length cb,.slice fJ ss.length cs,.slice ai is.length ci,.slice ao us.length co,.int .i64 Km] 119))=W):=⟨_,rfl⟩;rw[qy.out] at G0 BA BT;have HB:=ae (hB.Z G0.out);have Ny:=ae (qZ.Z G0.out);have HS:=ae (hS.Z G0.out);have CE:=ae (OJ.Z G0.out);have HI:=ae (hI.Z G0.out);have HI':=ae (hI'.Z G0.out);have HO:=ae (hO.Z G0.out);have HO':=ae (Cd.Z G0.out);have Gh:=ae nf
 have jq:=ae (FU (some ⟨g2,0,none⟩) ai is.length is.length is.length ci is is W0 HI.out HI'.out (by omega) (by omega));clear hB qZ hS OJ hI hI' hO Cd nf;have eI:decide (is=is)=true:=eG rfl;have eO:decide (us=us)=true:=eG rfl;have Kn:((bs.length:Int)!=(bs.length:Int))=false:=by simp
 have ns1:((ss.length:Int)!=(ss.length:Int))=false:=by simp
 have nb2:((bs.length:Int)==(bs.length:Int))=true:=by simp
 have ns2:((ss.length:Int)==(ss.length:Int))=true:=by simp
 have ni2:((is.length:Int)==(is.length:Int))=true:=by simp
 have no2:((us.length:Int)==(us.length:Int))=true:=by simp
 have a0:W0.cell? ⟨w.heap.size,0,none⟩=some (.slice (some ⟨g0,0,none⟩) bs.length bs.length):=BA.out.cell 0;have a1:W0.cell? ⟨w.heap.size,1,none⟩=some (.slice (some ⟨G,0,none⟩) ss.length ss.length):=BA.out.cell 1;have a2:W0.cell? ⟨w.heap.size,2,none⟩=some (.slice (some ⟨g2,0,none⟩) is.length is.length):=BA.out.cell 2;have a3:W0.cell? ⟨w.heap.size,3,none⟩=some (.slice (some ⟨g3,0,none⟩) us.length us.length):=BA.out.cell 3;have t0:W0.cell? ⟨w.heap.size+1,0,none⟩=some (.slice ab bs.length cb):=BT.out.cell 0;have t1:W0.cell? ⟨w.heap.size+1,1,none⟩=some (.slice fJ ss.length cs):=BT.out.cell 1;have t2:W0.cell? ⟨w.heap.size+1,2,none⟩=some (.slice ai is.length ci):=BT.out.cell 2;have t3:W0.cell? ⟨w.heap.size+1,3,none⟩=some (.slice ao us.length co):=BT.out.cell 3;have jd:=ae (fun nd=>FU (some ⟨g3,0,none⟩) ao us.length us.length us.length co us us (W0.drewN nd) (HO.out.Z (bE W0 nd none)) (HO'.out.Z (bE W0 nd none)) (by omega) (by omega));have Ha0:=ae a0;have Ha1:=ae a1;have Ha2:=ae a2;have Ha3:=ae a3;have Ht0:=ae t0;have Ht1:=ae t1;go_enter func82,ntmps82;go_wp2_with fail;rw[qy.out];refine jq.out.mono ?_;rintro e w1⟨rfl,Ko,rfl⟩;rw[eI];go_wp2_with fail;refine(jd.out Ko).mono ?_;rintro e w2⟨rfl,OK,rfl⟩;rw[eO,World.drewN_drewN];have Gd:=bE W0 (Ko+OK) none;have Ga:=ae (aC G0.out Gd);have b0:=aG Gd a0;have b1:=aG Gd a1;have b2:=aG Gd a2;have b3:=aG Gd a3;have s0:=aG Gd t0;have s1:=aG Gd t1;have tx:=ae (HB.out.Z Gd);have apS:=ae (Ny.out.Z Gd);have HSd:=ae (HS.out.Z Gd);have apV:=ae (CE.out.Z Gd);clear a0 a1 a2 a3 t0 t1 t2 t3 Gd jq jd HB Ny HS CE HI HI' HO HO' BA BT qy Ha0 Ha1 Ha2 Ha3 Ht0 Ht1 G0;generalize W0.drewN (Ko+OK)=W at *;have Hb0:=ae b0;have Hb1:=ae b1;have Hb2:=ae b2;have Hb3:=ae b3;have Hs0:=ae s0;have EI:=ae s1;go_wp2;clear b0 b1 b2 b3 s0 s1
 go_loopw[7] (fun i wr=>∃k:Nat,k<=bs.length/\i=.int .i64 k/\W.grownBy wr none) (fun i _=>bs.length-(intOf i).toNat)
 case atStart=>exact⟨0,bK _,rfl,fZ _ _⟩
 case round=>
  obtain⟨k,hk,rfl,aF⟩:=hrel;have b0:=aG aF Hb0.out;by_cases aJ:k<bs.length
  ·obtain⟨x,hx⟩:∃x,bs[k]?=some x:=⟨_,aS aJ⟩
   have s0:=aG aF Hs0.out;obtain⟨_,ea,d0,d1⟩:=(tx.out.Z aF) k x hx;injection ea with ea;injection ea with ea;subst ea;obtain⟨gb,rfl,e0,e1⟩:=(apS.out.Z aF) k x hx;have bH:=ae aF;obtain⟨xa,xc⟩:=x;simp only at d0 d1 e0 e1;have dL:(xa !=xa)=false:=by simp
   have im:(xc !=xc)=false:=by simp
   clear hx aF;go_wp2;go_quiet(fail);have iy:=ae (aC bH.out (bE wr nq none));go_wp2;go_roundw
   case rel=>exact⟨k+1,by omega,by go_num,iy.out⟩
   case measure=>simp[intOf];omega
  ·obtain rfl:k=bs.length:=by omega
   have bH:=ae aF;clear aF;go_wp2;clear b0;go_loopw[8] (fun i wr=>∃k:Nat,k<=ss.length/\i=.int .i64 k/\W.grownBy wr none) (fun i _=>ss.length-(intOf i).toNat)
   case atStart=>exact⟨0,bK _,rfl,bH.out⟩
   case round=>
    clear bH;obtain⟨k,hk,rfl,aF⟩:=hrel;have b1:=aG aF Hb1.out;by_cases aJ:k<ss.length
    ·obtain⟨x,hx⟩:∃x,ss[k]?=some x:=⟨_,aS aJ⟩
     have s1:=aG aF EI.out;obtain⟨gf,d0,d1,d2,rl⟩:=(HSd.out.Z aF).get k x hx;obtain⟨kJ,bf,cf,rfl,e0,e1,e2,OB⟩:=(apV.out.Z aF) k x hx;have EE:=Gh.out x (bU hx);have pS:Sl wr (.slice (some ⟨gf,0,none⟩) x.bS.length x.bS.length) x.bS:=⟨_,_,rfl,fun i y hy=>⟨_,rfl,by rw[vy];exact rl i y hy⟩⟩;have HC:=ae (fun nd=>FU (some ⟨gf,0,none⟩) bf x.bS.length x.bS.length x.bS.length cf x.bS x.bS (wr.drewN nd) (pS.Z (bE wr nd none)) (OB.Z (bE wr nd none)) (by omega) (by omega));have bH:=ae aF;obtain⟨xk,xf,xt⟩:=x;simp only at d0 d1 d2 e0 e1 e2 HC EE;have HC':Hid (∀nd,Calls prog 19 #[.slice (some ⟨gf,0,none⟩) xf.length xf.length,.slice bf xf.length cf] (wr.drewN nd) fun e w'=>e=.returned (.bool true)/\∃m,w'=(wr.drewN nd).drewN m):=fun nd=>(HC.out nd).mono fun _ _ ⟨h1,h2⟩=>⟨by rw[h1];simp,h2⟩;have dL:(xk !=xk)=false:=by simp
     have im:(xt !=xt)=false:=by simp
     have gY:((xf.length:Int)!=(xf.length:Int))=false:=by simp
     clear hx aF rl OB pS HC;go_wp2_with fail;go_quiet(exact Calls.quiet_of (HC'.out _));have gq:=bE wr nq none;have iy:=ae (aC bH.out gq);have b1':=aG gq b1;have s1':=aG gq s1;have Ba:=aG gq d0;have OE:=aG gq d1;have d2':=aG gq d2;have e0':=aG gq e0;have NQ:=aG gq e1;have e2':=aG gq e2;clear gq b1 s1 d0 d1 d2 e0 e1 e2 HC' bH;generalize wr.drewN nq=wq at *;go_wp2;go_quiet(fail);have xW:=ae (aC iy.out (bE wq nq none));go_wp2;go_roundw
     case rel=>exact⟨k+1,by omega,by go_num,xW.out⟩
     case measure=>simp[intOf];omega
    ·obtain rfl:k=ss.length:=by omega
     have b0:=aG aF Hb0.out;have b2:=aG aF Hb2.out;have b3:=aG aF Hb3.out;have bH:=ae (aC Ga.out aF);clear aF;go_wp2;go_ret;exact⟨rfl,bH.out⟩
end Go.Proofs.YtcnhfffgbamonaaGreat
