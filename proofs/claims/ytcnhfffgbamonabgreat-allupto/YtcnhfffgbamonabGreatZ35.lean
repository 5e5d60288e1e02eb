import Derived.Test.YtcnhfffgbamonabGreatZ34
set_option maxRecDepth 100000
set_option maxHeartbeats 6400000
namespace Go.Proofs.YtcnhfffgbamonabGreat
open Go.Proofs.Tryz
open Go.RowKit
theorem asK(m:M.Md):(R.jQ m.au).length=(gk m.au).length:=by
 unfold R.jQ;rw[R.Ge _ _ (bj _)];unfold H.cy gk;rw[jo,jh];rfl
theorem Un(m:M.Md):(R.jQ m.au).length=H.cy m.au m.au.length:=R.Ge _ _ (bj _)
theorem asL{w:World}{b ga c1:Nat}{g:R.bX}(h:lB w b g)(hT:tD w b ga c1 g){k:Nat}{t:M.Tn}(ht:g.ts[k]?=some t) :
  ∃aD cD,aZ w 0 (.slice aD t.data.length cD) t.data/\w.cell? ⟨ga,k*6,none⟩=some (.int .i64 t.af)/\w.cell? ⟨ga,k*6+5,none⟩=some (.slice aD t.data.length cD):=by
 obtain⟨a1,rO,a2,c2,a3,c3,h1,h2,h3,h4⟩:=h;obtain⟨g',ao,cp,e,-,-,hI,d0,-,-,-,-,d5⟩:=h2.get k t ht;have q:w.cell? ⟨b,0,none⟩=some (.slice a1 g.ts.length rO):=h1.cell 0;rw[hT.q] at q;injection q with q;injection q with q _ _;rw[e] at q;injection q with q;injection q with q;subst q;exact⟨ao,cp,hI.mono (bK _),d0,d5⟩
structure sw(w0 w8:World)(vs:List Value)(ls:List (List Int))(k:Nat):Prop where
 lv:vs.length=k
 ll:ls.length=k
 bN:∀(j:Nat) u l,vs[j]?=some u->ls[j]?=some l->∃a cp,u=.slice a l.length cp/\lV w0 w8 (.slice a l.length cp) l
theorem sw.nil(m:M.Md)(ins:List (List Int)){w0 w8:World}:sw w0 w8 [] (R.Be m ins 0) 0:=⟨rfl,R.asG ins (bK _),fun j u l h=>aN h (by simp)⟩
theorem sw.pk{w0 w8:World}{vs:List Value}{ls:List (List Int)}{k:Nat}(h:sw w0 w8 vs ls k){a:Option Addr}{cp:Nat}{l:List Int}(hl:lV w0 w8 (.slice a l.length cp) l):sw w0 w8 (vs++[.slice a l.length cp]) (ls++[l]) (k+1):=by
 refine⟨by simp[h.lv],by simp[h.ll],fun j u l' hu ij=>?_⟩;rcases cF j k with hj|hj
 ·rw[rn (by rw[h.lv];exact hj)] at hu
  rw[rn (by rw[h.ll];exact hj)] at ij;exact h.bN j u l' hu ij
 ·have ej:j=k:=by have:=M.bP hu;simp[h.lv] at this;omega
  subst ej;rw[oL (by rw[h.lv];exact bj _),h.lv,Nat.sub_self] at hu;rw[oL (by rw[h.ll];exact bj _),h.ll,Nat.sub_self] at ij;simp at hu ij;subst hu ij;exact⟨a,cp,rfl,hl⟩
theorem sw.Z{w0 w8 w':World}{vs:List Value}{ls:List (List Int)}{k:Nat}(h:sw w0 w8 vs ls k)(hg:w8.grownBy w' none):sw w0 w' vs ls k:=
 ⟨h.lv,h.ll,fun j u l hu hl=>by obtain⟨a,cp,e,hs⟩:=h.bN j u l hu hl;exact⟨a,cp,e,hs.Z hg⟩⟩
theorem aep(b:Nat)(m:M.Md)(a:Option Addr)(n c:Nat)(ins:List (List Int))(w0 w:World)(g0:w0.grownBy w none)(hG:lB w b (R.dp m))(h1:O.iN m)(hI:tG w0 w (.slice a n c) ins)(hl:∀l∈ins,l.length<=9223372036854775807)(hn:ins.length<=9223372036854775807)(tu:0<m.au.length) :
  Calls prog 73 #[.pointer (some ⟨b,0,none⟩),.slice a n c] w fun e w'=>w.grownBy w' none /\
   ((D.jM m ins=false/\e=.returned (.tuple #[.slice none 0 0,.int .i64 7])) \/
    (D.jM m ins=true/\∃ao co vs,e=.returned (.tuple #[.slice ao m.aJ.length co,.int .i64 0])/\w'.ownsRow w.heap.size 32 1 (.slice ao m.aJ.length co) m.aJ.length vs/\sw w0 w' vs (D.run m ins) m.aJ.length)):=by
 obtain rfl:=hI.len;obtain⟨i0,nJ,cQ,cR,cZ⟩:=info_parts Tryz.Fv;obtain⟨j0,Uo,vL,p9,vM⟩:=info_parts Tryz.oH;have Cy:=h1.nt;have wZ:=h1.no;have Zh:=h1.dQ.nu;have HG:=ae hG;have G0:=ae g0;clear g0;have HI:=ae hI;have Hl:=ae hl;have H1:=ae h1;have Gl:=asK m;have Hix:=ae Gl;clear Gl;obtain⟨ga,c1,Bg⟩:=hG.TN tu;have xq:=ae Bg;have HD:Hid (∀(n:Nat) t,m.au[n]?=some t->dW t/\0<=M.cellsOf t/\M.cellsOf t<=512):=fun n t ht=>by
  have hd:=h1.kN t (bV ht);have hf:=h1.dQ.ts t (bV ht);have hh:=hd.h0;have hw:=hd.w0;have hc:=hd.c0;have m3:=wT (h:=t.h) (w:=t.w) (c:=t.c) (by omega) hd.h1 (by omega) hd.w1 (by omega) hd.c1;exact⟨⟨hf.k0,hf.k1,by omega,hd.h1,by omega,hd.w1,by omega,hd.c1,hd.z0,hd.z1⟩,m3.2.2.1,hd.me⟩
 clear Bg;have fC:(R.jQ m.au).length<=24:=by rw[Un];unfold H.cy;exact jK (List.length_filter_le _ _) (by simp;omega)
 clear hG hI hl h1;go_enter func73,ntmps73;go_wp2_with fail;refine(TI b (R.dp m) w HG.out (by show m.au.length<=255;omega)).mono ?_;rintro e w1⟨⟨ax,cx,rfl,hX⟩,g1⟩;have hX':aZ w1 w.heap.size (.slice ax (R.jQ m.au).length cx) (R.jQ m.au):=hX;show _;have HX:=ae hX'.sl;have G1:=ae g1;have Up:(R.dp m).ts=m.au:=rfl;rw[Up];clear hX hX' g1;by_cases hc:ins.length=(R.jQ m.au).length
 ·have hb:((ins.length:Int) != ((R.jQ m.au).length:Int))=false:=by simp;omega
  have q0:w1.cell? ⟨b,0,none⟩=some (.slice (some ⟨ga,0,none⟩) m.au.length c1):=aG G1.out xq.out.q;have Hc:=ae hc;clear hc;go_wp2_with (at_make;refine pU _ rfl _ _ 38 rfl w1.heap.size 32 i0 (.slice none 0 0) 1 underlying38 nJ cQ cR _ _ _ _ m.au.length rfl rfl rfl rfl ?c1 ?c2 ?c3 ?_)
  case c1=>rw[cZ];omega
  case c2=>unfold maxLen;omega
  case c3=>exact bj _
  intro w2 cB aM;have fA:=Zg cB;have AM:=G1.out.size;have aU:=aQ w2 (.cells #[.pointer (some ⟨b,0,none⟩),.slice (some ⟨w1.heap.size,0,none⟩) m.au.length m.au.length] 181) none;have kZ:=fA.lt;have HS0:Hid (tH w0 w (w2.alloc (.cells #[.pointer (some ⟨b,0,none⟩),.slice (some ⟨w1.heap.size,0,none⟩) m.au.length m.au.length] 181)) b w2.heap.size w1.heap.size m.au.length (R.qt m.au ins 0 0)):=by
   refine⟨aj.bB w2 181 _,⟨_,fA.kept aU (by simp),?_⟩,aC G1.out (aC aM aU),G0.out,AM,by omega⟩;rw[R.aqM];exact qu.asI _ _ _
  have aet:=aC aM aU;have aeu:=ae aet;clear cB aM fA aU aet q0;go_wp2;generalize w2.alloc (.cells #[.pointer (some ⟨b,0,none⟩),.slice (some ⟨w1.heap.size,0,none⟩) m.au.length m.au.length] 181)=w3 at *;go_loopw[8] (fun i wr=>∃k:Nat,Hid (k<=(R.jQ m.au).length)/\i=.int .i64 k/\Hid (∀(j:Nat) l x,j<k->ins[j]?=some l->(gk m.au)[j]?=some x->(l.length:Int)=x/\l.all D.lg=true)/\Hid (tH w0 w wr b w2.heap.size w1.heap.size m.au.length (R.qt m.au ins k 0))/\Hid (w1.grownBy wr none)) (fun i _=>(R.jQ m.au).length-(intOf i).toNat)
  case atStart=>exact⟨0,bK _,rfl,fun _ _ _ hj=>aN hj (wG _),HS0.out,aeu.out⟩
  case round=>
   clear HS0 aeu;obtain⟨k,Hk,rfl,HA,HS,HW⟩:=hrel;have hk:=Hk.out;by_cases aK:k<(R.jQ m.au).length
   ·obtain⟨x,hx⟩:∃x,(R.jQ m.au)[k]?=some x:=⟨_,aT aK⟩
    obtain⟨n,t,rfl,fO,ht,k0,xw⟩:=R.Kr _ _ (bj _) k x hx;obtain⟨aX,rfl,dX⟩:=(HX.out.Z HW.out).get k n hx;have vH:k<ins.length:=by rw[Hc.out];exact aK
    obtain⟨l,hv⟩:∃l,ins[k]?=some l:=⟨_,aT vH⟩;obtain⟨aI,bI,cI,rfl,dI,Bh⟩:=HI.out.get k l hv;have mn:Hid ((gk m.au)[k]?=some (M.cellsOf t)):=by have e:=Nu ht k0;rw[xw] at e;exact e
    obtain⟨sG,n0,n1⟩:=HD.out n t ht;have hT:=(xq.out.t n t ht).Z HS.out.g;have HC:=ae (fun nd=>F8 ga (n*6) t (wr.drewN nd) sG (aG (bF wr nd none) hT.h) (aG (bF wr nd none) hT.v) (aG (bF wr nd none) hT.c));have q0:wr.cell? ⟨b,0,none⟩=some (.slice (some ⟨ga,0,none⟩) m.au.length c1):=aG HS.out.g xq.out.q;obtain⟨N,hN⟩:=fR n0;rw[hN] at HC mn n1;have Ch:=ae Bh;have HSl:=ae (Bh.sl G0.out);have Hv:=ae hv;have aew:=ae (R.aqN ht k0 xw hv);have HdI:=ae dI;have HdX:=ae dX;have Ht:=ae ht;have qi:=Hl.out l (bV hv);clear hx ht k0 xw hv Bh hT sG n0 hN dI;go_wp2_with fail;go_quiet (exact Calls.quiet_of (HC.out _));have jw:=ae (HS.out.Z (bF wr nq none));have HW1:=ae (aC HW.out (bF wr nq none));have dI:=aG jw.out.g HdI.out;have dX1:=aG (bF wr nq none) HdX.out;clear q0 dX HdX HC HS HW;generalize wr.drewN nq=wq at *;by_cases hlN:l.length=N
    ·subst hlN
     have b1:((l.length:Int) != (l.length:Int))=false:=by simp
     go_wp2;go_loopw[10] (fun i w'=>∃j:Nat,j<=l.length/\i=.int .i64 j/\Hid (∀(q:Nat) v,q<j->l[q]?=some v->D.lg v=true)/\w'=wq) (fun i _=>l.length-(intOf i).toNat)
     case atStart=>exact⟨0,bK _,rfl,fun q v hq=>aN hq (wG _),rfl⟩
     case round=>
      obtain⟨j,hj,rfl,jU,Aw⟩:=hrel;subst Aw;by_cases hlj:j<l.length
      ·obtain⟨v,hv⟩:∃v,l[j]?=some v:=⟨_,aT hlj⟩
       obtain⟨aB,rfl,d0⟩:=(HSl.out.Z jw.out.g).get j v hv;have Uq:=ae hv;clear hv;by_cases h1:v < -128
       ·have He:=ae (RO (md:=m) Hv.out (Ns Uq.out (by unfold D.lg;rw[show decide (-128<=v)=false from by simp;omega];rfl)))
        go_wp2
        go_ret2
        exact⟨jw.out.g,.inl ⟨He.out,rfl⟩⟩
       ·by_cases h2:127<v
        ·have He:=ae (RO (md:=m) Hv.out (Ns Uq.out (by unfold D.lg;rw[show decide (v<=127)=false from by simp;omega];simp)))
         go_wp2
         go_ret2
         exact⟨jw.out.g,.inl ⟨He.out,rfl⟩⟩
        ·have fg:Hid (∀(q:Nat) u,q<j+1->l[q]?=some u->D.lg u=true):=fun q u hq hu=>by
          rcases cF q j with h' | h'
          ·exact jU.out q u h' hu
          ·obtain rfl:q=j:=by omega
           rw[Uq.out] at hu;injection hu with hu;subst hu;unfold D.lg;simp;omega
         go_wp2;go_roundw
         case rel=>exact⟨j+1,by omega,by go_num,fg.out,trivial⟩
         case measure=>simp[intOf];omega
      ·obtain rfl:j=l.length:=by omega
       have Ee:=ae (YW fun q v hv=>jU.out q v (M.bP hv) hv);obtain⟨l0,rU⟩:∃l0,(R.qt m.au ins k 0)[n]?=some l0:=⟨_,R.wE Ht.out⟩;have uS:=jw.out.Z (gH _ none);obtain⟨a0,cp0,z0,-,f0⟩:=uS.EJ rU;have r1:=jw.out.r.cell 1;simp only[show(#[Value.pointer (some ⟨b,0,none⟩),.slice (some ⟨w1.heap.size,0,none⟩) m.au.length m.au.length]:Array Value)[1]?=some (.slice (some ⟨w1.heap.size,0,none⟩) m.au.length m.au.length) from rfl] at r1;have hZ:=ae (uS.set n (Ch.out.Z uS.g));rw[aew.out] at hZ;have KO:=ae (dF (aC HW1.out (gH _ none)) (bD _ w1.heap.size n (.slice bI l.length cI)) (bj _));have mS:Hid (∀(j:Nat) l x,j<k+1->ins[j]?=some l->(gk m.au)[j]?=some x->(l.length:Int)=x/\l.all D.lg=true):=fun q u x hq hu hx=>by
        rcases cF q k with h' | h'
        ·exact HA.out q u x h' hu hx
        ·obtain rfl:q=k:=by omega
         rw[Hv.out] at hu;injection hu with hu;subst hu;rw[mn.out] at hx;injection hx with hx;exact⟨hx,Ee.out⟩
       clear rU uS HSl Ch aew;go_wp2;go_still_tail 12,(by kernel_rfl);show wpList _ _ _ _ _ (World.drew _);clear r1 dI dX1;go_wp2;go_roundw
       case rel=>exact⟨k+1,(show k+1<=_ by omega),by go_num,mS.out,hZ.out,KO.out⟩
       case measure=>simp[intOf];omega
    ·have b1:((l.length:Int) != (N:Int))=true:=by simp;omega
     have He:=ae (YY Hv.out mn.out (by omega));clear hlN;go_wp2
     go_ret2
     exact⟨jw.out.g,.inl ⟨He.out,rfl⟩⟩
   ·obtain rfl:k=(R.jQ m.au).length:=by omega
    have Hh:Hid (D.jM m ins=true):=YZ (by rw[Hc.out,Hix.out]) fun q l x hl hx=>HA.out q l x (by rw[<-Hc.out];exact M.bP hl) hl hx;rw[Un] at HS;have q0:wr.cell? ⟨b,0,none⟩=some (.slice (some ⟨ga,0,none⟩) m.au.length c1):=aG HS.out.g xq.out.q;clear HA HW HX Hk hk aK hb;go_wp2;clear q0;go_loopw[11] (fun i w'=>∃k:Nat,Hid (k<=m.au.length)/\i=.int .i64 k/\Hid (tH w0 w w' b w2.heap.size w1.heap.size m.au.length (R.qt m.au ins (H.cy m.au m.au.length) k))) (fun i _=>m.au.length-(intOf i).toNat)
    case atStart=>exact⟨0,bK _,rfl,HS.out⟩
    case round=>
     clear HS;obtain⟨k,Hk,rfl,HS⟩:=hrel;have hk:=Hk.out;have q0:=aG HS.out.g (show w.cell? ⟨b,0,none⟩=some (.slice (some ⟨ga,0,none⟩) m.au.length c1) from xq.out.q);by_cases aK:k<m.au.length
     ·obtain⟨t,ht⟩:∃t,m.au[k]?=some t:=⟨_,aT aK⟩
      obtain⟨aD,cD,hD,d0,d5⟩:=asL HG.out xq.out ht;have AN:=aG HS.out.g d0;by_cases vg:t.af=1\/t.af=2
      ·obtain⟨l0,rU⟩:∃l0,(R.qt m.au ins (H.cy m.au m.au.length) k)[k]?=some l0:=⟨_,R.wE ht⟩
       have uS:=HS.out.Z (gH _ none);obtain⟨a0,cp0,z0,-,f0⟩:=uS.EJ rU;have r1:=HS.out.r.cell 1;simp only[show(#[Value.pointer (some ⟨b,0,none⟩),.slice (some ⟨w1.heap.size,0,none⟩) m.au.length m.au.length]:Array Value)[1]?=some (.slice (some ⟨w1.heap.size,0,none⟩) m.au.length m.au.length) from rfl] at r1;have Rs:=aG HS.out.g d5;have hZ:=ae (uS.set k (.inr (.inl (hD.Z uS.g))));rw[R.aqO ht vg] at hZ;clear rU uS hD d5 d0 ht;by_cases xh:t.af=1
       ·rw[xh] at AN
        clear vg xh;go_wp2;go_still_tail 13,(by kernel_rfl);show wpList _ _ _ _ _ (World.drew _);clear r1 Rs AN q0;go_wp2;go_roundw
        case rel=>exact⟨k+1,(show k+1<=_ by omega),by go_num,hZ.out⟩
        case measure=>simp[intOf];omega
       ·have rC:t.af=2:=by omega
        rw[rC] at AN;clear vg xh rC;go_wp2;go_still_tail 13,(by kernel_rfl);show wpList _ _ _ _ _ (World.drew _);clear r1 Rs AN q0;go_wp2;go_roundw
        case rel=>exact⟨k+1,(show k+1<=_ by omega),by go_num,hZ.out⟩
        case measure=>simp[intOf];omega
      ·have b1:(t.af==1)=false:=by simp;omega
       have b2:(t.af==2)=false:=by simp;omega
       have He:=ae (R.aqP (ins:=ins) (i:=H.cy m.au m.au.length) ht vg);clear hD d5 d0 ht vg;go_wp2;go_roundw
       case rel=>exact⟨k+1,(show k+1<=_ by omega),by go_num,by rw[He.out];exact HS.out⟩
       case measure=>simp[intOf];omega
     ·obtain rfl:k=m.au.length:=by omega
      rw[R.aqQ (fun t ht=>⟨(H1.out.dQ.ts t ht).k0,(H1.out.dQ.ts t ht).k1⟩),<-R.aem] at HS;obtain⟨a1,rO,a2,c2,a3,c3,yC,-,hOs,hUs⟩:=HG.out;have Q1:=ae (show w.cell? ⟨b,1,none⟩=some (.slice a2 m.ag.length c2) by have e:=yC.cell 1;simp only[R.dp,jh] at e;exact e);have Q2:=ae (show w.cell? ⟨b,2,none⟩=some (.slice a3 m.aJ.length c3) from yC.cell 2);have HOs:=ae hOs;have HUs:=ae hUs;have q1:=aG HS.out.g Q1.out;clear yC hOs hUs Hk hk aK;go_wp2;clear q0 q1;go_loopw[12] (fun i w'=>∃k:Nat,Hid (k<=m.ag.length)/\i=.int .i64 k/\Hid (tH w0 w w' b w2.heap.size w1.heap.size m.au.length (R.uQ m ins k))) (fun i _=>m.ag.length-(intOf i).toNat)
      case atStart=>exact⟨0,bK _,rfl,HS.out⟩
      case round=>
       clear HS;obtain⟨k,Hk,rfl,HS⟩:=hrel;have hk:=Hk.out;have q1:=aG HS.out.g Q1.out;by_cases aK:k<m.ag.length
       ·obtain⟨o,ho⟩:∃o,m.ag[k]?=some o:=⟨_,aT aK⟩
        obtain⟨go,rfl,-,Dd⟩:=HOs.out.bN k (R.bJ o) (by show(m.ag.map R.bJ)[k]?=_;rw[dY,ho];rfl);obtain⟨z0,z1,-⟩:=O.mf (H1.out.to k o ho);obtain⟨n,en⟩:=fR z0;have fO:n<m.au.length:=by omega
        have ht:m.au[n]?=some (M.aq m o.to):=by have e:=(O.kM z0 z1).1;rw[show o.to.toNat=n by omega] at e;exact e
        obtain⟨C,hE⟩:=R.asD H1.out Hh.out k hk;obtain⟨hRd,zR⟩:=R.asC H1.out hE ho;have HRd:=ae hRd;have eX:=ae (R.ael (ins:=ins) ho);rw[zR,show o.to.toNat=n by omega] at eX;have ⟨_,_,_,_,_,_,o2,_,_,_⟩:=Dd;have x9:w.cell? ⟨go,k*4+2,none⟩=some (.int .i64 (n:Int)):=by rw[<-en];exact o2
        have hT:=xq.out.t n _ ht;obtain⟨sG,n0,n1⟩:=HD.out n _ ht;obtain⟨zh,OY⟩:=fR sG.h0;obtain⟨zw,OZ⟩:=fR sG.w0;obtain⟨zc,O4⟩:=fR sG.c0;have b1:=sG.h1;have b2:=sG.w1;have b3:=sG.c1;have T1:=hT.h;have T2:=hT.v;have T3:=hT.c;rw[OY] at T1 b1;rw[OZ] at T2 b2;rw[O4] at T3 b3;have HM:Hid (zh*zw*zc<=512):=by
         unfold M.cellsOf at n1;rw[OY,OZ,O4] at n1;unfold Hid
         exact_mod_cast n1
        have TT1:=ae T1;have TT2:=ae T2;have TT3:=ae T3;have Uh:=ae Dd;have OO:=ae x9;have q0:=aG HS.out.g (show w.cell? ⟨b,0,none⟩=some (.slice (some ⟨ga,0,none⟩) m.au.length c1) from xq.out.q);have o2:=aG HS.out.g x9;have zB:=ae (And.intro OY (And.intro OZ O4));clear zR hE hRd ho Dd ht hT sG n0 n1 OY OZ O4 T1 T2 T3 x9 en z0 z1;go_wp2;go_quiet (fail);have kE:=ae (HS.out.Z (bF wr nq none));clear q0 q1 o2 HS;generalize wr.drewN nq=w4 at *;have t1:=aG kE.out.g TT1.out;go_wp2;clear t1;obtain⟨f,Hf⟩:∃f,Hid (D.cell o (O.cY m o (D.bW C o.a) (D.bW C o.b))=f):=⟨_,rfl⟩;rw[Hf.out] at eX;go_loopw[15,16] (fun v i w'=>∃(y q:Nat) (ao:Option Addr) (cq:Nat),y<=zh/\i=.int .i64 y/\v=.slice ao q cq/\Hid (q=(y*zw+0)*zc+0)/\Hid (aZ w' w4.heap.size (.slice ao q cq) (O.qJ (M.aq m o.to) f q))/\Hid (w4.grownBy w' none)) (fun _ i _=>zh-(intOf i).toNat)
        case atStart=>exact⟨0,0,none,0,bK _,rfl,rfl,(show _=_ by simp),aZ.nil _ _,gL _ _⟩
        case round=>
         obtain⟨y,q,ao,cq,hy,rfl,rfl,Hq,HQ,HW⟩:=hrel;have t1:=aG (aC kE.out.g HW.out) TT1.out;by_cases hyl:y<zh
         ·have t2:=aG (aC kE.out.g HW.out) TT2.out
          go_wp2;clear t1 t2;go_loopw[15,17] (fun v i w'=>∃(x q:Nat) (ao:Option Addr) (cq:Nat),x<=zw/\i=.int .i64 x/\v=.slice ao q cq/\Hid (q=(y*zw+x)*zc+0)/\Hid (aZ w' w4.heap.size (.slice ao q cq) (O.qJ (M.aq m o.to) f q))/\Hid (w4.grownBy w' none)) (fun _ i _=>zw-(intOf i).toNat)
          case atStart=>exact⟨0,q,ao,cq,bK _,rfl,rfl,Hq.out,HQ.out,HW.out⟩
          case round=>
           clear Hq HQ HW;obtain⟨x,q,ao,cq,hx,rfl,rfl,Hq,HQ,HW⟩:=hrel;have t2:=aG (aC kE.out.g HW.out) TT2.out;by_cases uu:x<zw
           ·have t3:=aG (aC kE.out.g HW.out) TT3.out
            go_wp2;clear t2 t3;go_loopw[15,18] (fun v i w'=>∃(z q:Nat) (ao:Option Addr) (cq:Nat),z<=zc/\i=.int .i64 z/\v=.slice ao q cq/\Hid (q=(y*zw+x)*zc+z)/\Hid (aZ w' w4.heap.size (.slice ao q cq) (O.qJ (M.aq m o.to) f q))/\Hid (w4.grownBy w' none)) (fun _ i _=>zc-(intOf i).toNat)
            case atStart=>exact⟨0,q,ao,cq,bK _,rfl,rfl,Hq.out,HQ.out,HW.out⟩
            case round=>
             clear Hq HQ HW;obtain⟨z,q,ao,cq,hz,rfl,rfl,Hq,HQ,HW⟩:=hrel;have t3:=aG (aC kE.out.g HW.out) TT3.out;by_cases vV:z<zc
             ·have hql:q<512:=by
               have e:=XA hyl uu vV;have e2:=HM.out;rw[<-Hq.out] at e;omega
              have fg:=ae (Xz (t:=M.aq m o.to) (f:=f) zB.out.2.1 zB.out.2.2 uu vV Hq.out);have HC:=ae (asB w2.heap.size b ga c1 w1.heap.size go (k*4) (R.dp m) (R.uQ m ins k) m o _ _ y x z wr ((kE.out.Z HW.out).rnr xq.out (show m.au.length<=255 by omega)) (Uh.out.Z (aC kE.out.g HW.out)) rfl HRd.out (by omega) (by rw[zB.out.1];omega) (by omega) (by rw[zB.out.2.1];omega) (by omega) (by rw[zB.out.2.2];omega));rw[Hf.out] at HC;obtain⟨v,Hv⟩:∃v,Hid (f y x z=v):=⟨_,rfl⟩;rw[Hv.out] at HC fg;go_wp2_with fail;refine HC.out.mono ?_;rintro e w5⟨rfl,cJ⟩;have J0:=ae (aC HW.out cJ);have O5:=ae (HQ.out.Z cJ);clear HC cJ HW HQ t3;have Ur:=ae O5.out.len;go_wp2_with (at_builtin;refine ng _ rfl _ _ 32 rfl w4.heap.size 3 j0 (.int .i64 0) 1 8 underlying32 Uo vL p9 vM rfl (by decide) _ _ _ rfl (lP O5.out _) ⟨w5.heap.size,0,none⟩ 1 1 [.int .i64 v] rfl rfl ?c1 ?c2 ?c3 ?c4 ?c5 ?_)
              case c1=>exact kb w5 3 #[.int .i64 v]
              case c2=>intro u hu;simp at hu;subst hu;rfl
              case c3=>unfold maxLen;rw[<-Ur.out];omega
              case c4=>rw[<-Ur.out];omega
              case c5=>have:=J0.out.size;simp;omega
              intro v' w9 cB cV _;have bC:w5.grownBy w9 (Value.slice ao q cq).ownBlock:=aC (aQ w5 _ _) cV;have dR:=mE O5.out;have I9:aZ w9 w4.heap.size v' (O.qJ (M.aq m o.to) f q++[v]):=by unfold aZ;simpa using cB
              rw[<-fg.out] at I9;obtain⟨Ar,c',hv⟩:=gY I9;rw[II] at hv;subst hv;have lr:=ae I9;have jx:=ae (mA J0.out bC (fun g hg=>by have:=dR g hg;omega));clear cB cV bC dR I9 O5 J0 Ur;go_wp2;go_roundw
              case rel=>exact⟨z+1,q+1,Ar,c',by omega,by go_num,rfl,(show q+1=(y*zw+x)*zc+(z+1) by rw[Hq.out];rfl),lr.out,jx.out⟩
              case measure=>simp[intOf];omega
             ·obtain rfl:z=zc:=by omega
              go_wp2;go_roundw
              case rel=>exact⟨x+1,q,ao,cq,by omega,by go_num,rfl,(show q=(y*zw+(x+1))*z+0 by rw[Hq.out,<-Nat.add_assoc,Nat.add_mul (y*zw+x) 1 z];omega),HQ.out,HW.out⟩
              case measure=>simp[intOf];omega
           ·obtain rfl:x=zw:=by omega
            go_wp2;go_roundw
            case rel=>exact⟨y+1,q,ao,cq,by omega,by go_num,rfl,(show q=((y+1)*x+0)*zc+0 by rw[Hq.out,Nat.add_mul y 1 x,Nat.one_mul];rfl),HQ.out,HW.out⟩
            case measure=>simp[intOf];omega
         ·obtain rfl:y=zh:=by omega
          have vT:=ae (kE.out.Z HW.out);have hQ:=HQ.out;have eq:q=(M.cellsOf (M.aq m o.to)).toNat:=by
           have e:M.cellsOf (M.aq m o.to)=((y*zw*zc:Nat):Int):=by unfold M.cellsOf;rw[zB.out.1,zB.out.2.1,zB.out.2.2];simp
           rw[e,ey,Hq.out];rfl
          have Us:=hQ.len;have yT:O.qJ (M.aq m o.to) f q=D.pZ (M.aq m o.to) f:=by rw[eq];exact Xy _ _
          rw[yT] at hQ Us;have Heq:=ae eq;clear eq yT;obtain⟨L,HL⟩:∃L,Hid (D.pZ (M.aq m o.to) f=L):=⟨_,rfl⟩;rw[HL.out] at hQ Us eX;have dh:=kE.out.r.lt;have uS:=vT.out.Z (gH _ none);obtain⟨l0,rU⟩:∃l0,(R.uQ m ins k)[n]?=some l0:=⟨_,aT (by rw[R.Um ins k hk];exact fO)⟩;obtain⟨a0,cp0,z0,-,f0⟩:=uS.EJ rU;have r1:=vT.out.r.cell 1;simp only[show(#[Value.pointer (some ⟨b,0,none⟩),.slice (some ⟨w1.heap.size,0,none⟩) m.au.length m.au.length]:Array Value)[1]?=some (.slice (some ⟨w1.heap.size,0,none⟩) m.au.length m.au.length) from rfl] at r1;have o2:=aG vT.out.g OO.out;subst Us;have HS6:=ae (uS.set n (.inr (.inl ((hQ.Z (gH _ none)).mono (bK _)))));rw[<-eX.out] at HS6;clear hQ uS rU Hq HQ HW kE Heq;go_wp2;go_still_tail 9,(by kernel_rfl);show wpList _ _ _ _ _ (World.drew _);clear r1 o2 t1;go_wp2;go_roundw
          case rel=>exact⟨k+1,(show k+1<=_ by omega),by go_num,HS6.out⟩
          case measure=>simp[intOf];omega
       ·obtain rfl:k=m.ag.length:=by omega
        rw[R.aen] at HS;have hEl:(D.fK m ins).length=m.au.length:=by rw[<-R.aen];exact R.Um ins _ (bj _)
        have HEl:=ae hEl;have u2:=aG HS.out.g Q2.out;clear Hk hk aK hEl;obtain⟨w8,Hw8⟩:∃w8,Hid (wr=w8):=⟨_,rfl⟩;rw[Hw8.out] at HS;go_wp2;clear q1 u2;go_loopw[20,21] (fun v i w'=>∃(k:Nat) (ao:Option Addr) (cq:Nat) (vs:List Value),Hid (k<=m.aJ.length)/\i=.int .i64 k/\v=.slice ao k cq/\Hid (w'.ownsRow w8.heap.size 32 1 (.slice ao k cq) k vs)/\Hid (sw w0 w8 vs (R.Be m ins k) k)/\Hid (w8.grownBy w' none)) (fun _ i _=>m.aJ.length-(intOf i).toNat)
        case atStart=>exact⟨0,none,0,[],bK _,rfl,rfl,kq _ _ _ _,sw.nil _ _,by rw[Hw8.out];exact gL _ _⟩
        case round=>
         obtain⟨k,ao,cq,vs,Hk,rfl,rfl,HQ,HV,HW⟩:=hrel;have hk:=Hk.out;have uZ:=aC HS.out.g HW.out;have u2:=aG uZ Q2.out;by_cases aK:k<m.aJ.length
         ·obtain⟨x,hx⟩:∃x,m.aJ[k]?=some x:=⟨_,aT aK⟩
          obtain⟨x0,x1⟩:=R.asH H1.out (bV hx);have O6:=R.KM x0 x1 HEl.out;obtain⟨n,en⟩:=fR x0;obtain⟨gu,ea,-,-,d0⟩:=HUs.out.get k x hx;subst ea;have HRt:=ae (R.asE (ins:=ins) hx);obtain⟨l,R6⟩:∃l,Hid (D.bW (D.fK m ins) x=l):=⟨_,rfl⟩;rw[R6.out] at HRt O6;rw[en] at d0;rw[show x.toNat=n by omega] at O6;have fO:n<m.au.length:=by omega
          obtain⟨aL,cL,z0,Bh,-⟩:=HS.out.EJ O6;have r1:=(HS.out.r.kept HW.out (by simp)).cell 1;simp only[show(#[Value.pointer (some ⟨b,0,none⟩),.slice (some ⟨w1.heap.size,0,none⟩) m.au.length m.au.length]:Array Value)[1]?=some (.slice (some ⟨w1.heap.size,0,none⟩) m.au.length m.au.length) from rfl] at r1;have y1:=cell_regrown r1;have y2:=cell_regrown u2;have y3:=cell_regrown (aG uZ d0);have y4:=cell_regrown (aG HW.out z0);have HV2:=ae (HV.out.pk (l:=l) (a:=aL) (cp:=cL) Bh);rw[<-HRt.out] at HV2;have HP:=ae (eW HQ.out (gH wr none));clear hx x0 x1 O6 en d0 z0 Bh r1 uZ Hk hk;go_wp2;clear u2;refine CC 14 15 (fun w'=>∃p:Regrown,w'=Go.Sort.grow (redrawn wr p.d) p.os) (wr.drew.alloc (.cells #[.slice aL l.length cL] 32)) (by kernel_rfl) (by kernel_rfl) (by decide) ⟨⟨wr.drawn+1,#[]⟩,by rw[Go.Sort.grow_empty];rfl⟩ ⟨⟨wr.drawn+1,#[.cells #[.slice aL l.length cL] 32]⟩,rfl⟩ ?_;simp only[List.take_succ_cons,List.take_zero,List.drop_succ_cons,List.drop_zero]
          repeat (refine yZ (by decide) (fun K hK=>?_);go_simp;refine hK _ ?_;clear hK K)
          refine CD (.slice (some ⟨wr.heap.size,0,none⟩) 1 1) ?hw ?hr ?_
          case hw=>rfl
          case hr=>go_simp
          refine CE ?_;clear y1 y2 y3 y4;go_wp2_with (at_builtin;refine ng _ rfl _ _ 38 rfl w8.heap.size 32 i0 (.slice none 0 0) 1 24 underlying38 nJ cQ cR cZ rfl (by decide) _ _ _ rfl (lP HP.out _) ⟨wr.heap.size,0,none⟩ 1 1 [.slice aL l.length cL] rfl rfl ?c1 ?c2 ?c3 ?c4 ?c5 ?_)
          case c1=>exact kb wr.drew 32 #[.slice aL l.length cL]
          case c2=>intro u hu;simp at hu;subst hu;rfl
          case c3=>unfold maxLen;omega
          case c4=>omega
          case c5=>have:=HW.out.size;simp;omega
          intro v' w9 cB cV _;have bC:wr.grownBy w9 (Value.slice ao k cq).ownBlock:=aC (aC (aQ wr _ _) (gH _ _)) cV;have dR:=mE HQ.out;obtain⟨Ar,c',hv⟩:=gY cB;subst hv;have HQ9:Hid (w9.ownsRow w8.heap.size 32 1 (.slice Ar (k+1) c') (k+1) (vs++[.slice aL l.length cL])):=cB;have jx:=ae (mA HW.out bC (fun g hg=>by have:=dR g hg;omega));clear cB cV bC dR HP HQ;go_wp2;go_roundw
          case rel=>exact⟨k+1,Ar,c',vs++[Value.slice aL l.length cL],(show k+1<=_ by omega),by go_num,rfl,HQ9,HV2,jx⟩
          case measure=>simp[intOf];omega
         ·obtain rfl:k=m.aJ.length:=by omega
          rw[R.asF] at HV;have HF:=ae (HV.out.Z HW.out);have HQ':=ae (m9 HQ.out HS.out.g.size);have RX:=ae uZ;clear uZ;go_wp2
          go_ret2
          exact⟨RX.out,.inr ⟨Hh.out,ao,cq,vs,rfl,HQ'.out,HF.out⟩⟩
 ·have hb:((ins.length:Int) != ((R.jQ m.au).length:Int))=true:=by simp;omega
  have He:=ae (YX (md:=m) (ins:=ins) (by rw[<-Hix.out];exact hc));clear hc;go_wp2
  go_ret2
  exact⟨G1.out,.inl ⟨He.out,rfl⟩⟩
end Go.Proofs.YtcnhfffgbamonabGreat
