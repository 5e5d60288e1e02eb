import Derived.Test.YtcnhfffgbamonaaGreatZ34
set_option maxRecDepth 100000
set_option maxHeartbeats 6400000
namespace Go.Proofs.YtcnhfffgbamonaaGreat
open Go.Proofs.Tryz
open RowKit
theorem atO(m:M.Md):(R.jT m.au).length=(gC m.au).length:=by
 unfold R.jT;rw[R.GH _ _ (bj _)];unfold H.cy gC;rw[jm,jb];rfl
theorem UW(m:M.Md):(R.jT m.au).length=H.cy m.au m.au.length:=R.GH _ _ (bj _)
theorem atP{w:World}{b ga c1:Nat}{g:R.bX}(h:lF w b g)(hT:tQ w b ga c1 g){k:Nat}{t:M.Tn}(ht:g.ts[k]?=some t):
 ∃aD cD,aZ w 0 (.slice aD t.data.length cD) t.data/\w.cell? ⟨ga,k*6,none⟩=some (.int .i64 t.af)/\w.cell? ⟨ga,k*6+5,none⟩=some (.slice aD t.data.length cD):=by
 obtain⟨a1,rX,a2,c2,a3,c3,h1,h2,h3,h4⟩:=h;obtain⟨g',ao,cp,e,-,-,hI,d0,-,-,-,-,d5⟩:=h2.get k t ht;have q:w.cell? ⟨b,0,none⟩=some (.slice a1 g.ts.length rX):=h1.cell 0;rw[hT.q] at q;injection q with q;injection q with q _ _;rw[e] at q;injection q with q;injection q with q;subst q;exact⟨ao,cp,hI.mono (bK _),d0,d5⟩
structure sH(w0 w8:World)(vs:List Value)(ls:List (List Int))(k:Nat):Prop where
 lv:vs.length=k
 ll:ls.length=k
 bN:∀(j:Nat) u l,vs[j]?=some u->ls[j]?=some l->∃a cp,u=.slice a l.length cp/\lY w0 w8 (.slice a l.length cp) l
theorem sH.nil(m:M.Md)(ins:List (List Int)){w0 w8:World}:sH w0 w8 [] (R.Bw m ins 0) 0:=⟨rfl,R.atK ins (bK _),fun j u l h=>aN h (by simp)⟩
theorem sH.py{w0 w8:World}{vs:List Value}{ls:List (List Int)}{k:Nat}(h:sH w0 w8 vs ls k){a:Option Addr}{cp:Nat}{l:List Int}(hl:lY w0 w8 (.slice a l.length cp) l):sH w0 w8 (vs++[.slice a l.length cp]) (ls++[l]) (k+1):=by
 refine⟨by simp[h.lv],by simp[h.ll],fun j u l' hu fI=>?_⟩;rcases cE j k with hj|hj
 ·rw[qT (by rw[h.lv];exact hj)] at hu
  rw[qT (by rw[h.ll];exact hj)] at fI;exact h.bN j u l' hu fI
 ·have ej:j=k:=by have:=M.bP hu;simp[h.lv] at this;omega
  subst ej;rw[og (by rw[h.lv];exact bj _),h.lv,Nat.sub_self] at hu;rw[og (by rw[h.ll];exact bj _),h.ll,Nat.sub_self] at fI;simp at hu fI;subst hu fI;exact⟨a,cp,rfl,hl⟩
theorem sH.Z{w0 w8 w':World}{vs:List Value}{ls:List (List Int)}{k:Nat}(h:sH w0 w8 vs ls k)(hg:w8.grownBy w' none):sH w0 w' vs ls k:=
 ⟨h.lv,h.ll,fun j u l hu hl=>by obtain⟨a,cp,e,hs⟩:=h.bN j u l hu hl;exact⟨a,cp,e,hs.Z hg⟩⟩
theorem afh(b:Nat)(m:M.Md)(a:Option Addr)(n c:Nat)(ins:List (List Int))(w0 w:World)(g0:w0.grownBy w none)(hG:lF w b (R.dp m))(h1:O.iP m)(hI:rD w0 w (.slice a n c) ins)(hl:∀l∈ins,l.length<=9223372036854775807)(hn:ins.length<=9223372036854775807)(tL:0<m.au.length):
 Calls prog 38 #[.pointer (some ⟨b,0,none⟩),.slice a n c] w fun e w'=>w.grownBy w' none /\
   ((D.jP m ins=false/\e=.returned (.tuple #[.slice none 0 0,.int .i64 7])) \/
    (D.jP m ins=true/\∃ao co vs,e=.returned (.tuple #[.slice ao m.aK.length co,.int .i64 0])/\w'.ownsRow w.heap.size 33 1 (.slice ao m.aK.length co) m.aK.length vs/\sH w0 w' vs (D.run m ins) m.aK.length)):=by
 obtain rfl:=hI.len;obtain⟨i0,mB,cP,cQ,cZ⟩:=info_parts Tryz.Ey;obtain⟨j0,UX,vZ,qq,wg⟩:=info_parts Tryz.oO;have CN:=h1.nt;have xv:=h1.no;have hnu:=h1.dQ.nu;have HG:=ae hG;have G0:=ae g0;clear g0;have HI:=ae hI;have Hl:=ae hl;have H1:=ae h1;have GN:=atO m;have Hix:=ae GN;clear GN;obtain⟨ga,c1,By⟩:=hG.Uq tL;have xI:=ae By;have HD:Hid (∀(n:Nat) t,m.au[n]?=some t->dZ t/\0<=M.cellsOf t/\M.cellsOf t<=512):=fun n t ht=>by
  have hd:=h1.kQ t (bU ht);have hf:=h1.dQ.ts t (bU ht);have hh:=hd.h0;have hw:=hd.w0;have hc:=hd.c0;have m3:=xn (h:=t.h) (w:=t.w) (c:=t.c) (by omega) hd.h1 (by omega) hd.w1 (by omega) hd.c1;exact⟨⟨hf.k0,hf.k1,by omega,hd.h1,by omega,hd.w1,by omega,hd.c1,hd.z0,hd.z1⟩,m3.2.2.1,hd.mn⟩
 clear By;have fq:(R.jT m.au).length<=24:=by rw[UW];unfold H.cy;exact jN (List.length_filter_le _ _) (by simp;omega)
 clear hG hI hl h1;go_enter func38,ntmps38;go_wp2_with fail;refine(Ul b (R.dp m) w HG.out (by show m.au.length<=255;omega)).mono ?_;rintro e w1⟨⟨ax,cx,rfl,hX⟩,g1⟩;have hX':aZ w1 w.heap.size (.slice ax (R.jT m.au).length cx) (R.jT m.au):=hX;show _;have HX:=ae hX'.sl;have G1:=ae g1;have UY:(R.dp m).ts=m.au:=rfl;rw[UY];clear hX hX' g1;by_cases hc:ins.length=(R.jT m.au).length
 ·have hb:((ins.length:Int)!=((R.jT m.au).length:Int))=false:=by simp;omega
  have q0:w1.cell? ⟨b,0,none⟩=some (.slice (some ⟨ga,0,none⟩) m.au.length c1):=aG G1.out xI.out.q;have Hc:=ae hc;clear hc;go_wp2_with(at_make;refine qg _ rfl _ _ 25 rfl w1.heap.size 33 i0 (.slice none 0 0) 1 underlying25 mB cP cQ _ _ _ _ m.au.length rfl rfl rfl rfl ?c1 ?c2 ?c3 ?_)
  case c1=>rw[cZ];omega
  case c2=>unfold maxLen;omega
  case c3=>exact bj _
  intro w2 cB aM;have ff:=abi cB;have xS:=G1.out.size;have aU:=aQ w2 (.cells #[.pointer (some ⟨b,0,none⟩),.slice (some ⟨w1.heap.size,0,none⟩) m.au.length m.au.length] 147) none;have lk:=ff.lt;have Ln:Hid (tU w0 w (w2.alloc (.cells #[.pointer (some ⟨b,0,none⟩),.slice (some ⟨w1.heap.size,0,none⟩) m.au.length m.au.length] 147)) b w2.heap.size w1.heap.size m.au.length (R.qE m.au ins 0 0)):=by
   refine⟨aj.bA w2 147 _,⟨_,ff.kept aU (by simp),?_⟩,aC G1.out (aC aM aU),G0.out,xS,by omega⟩;rw[R.arS];exact qF.atM _ _ _
  have afk:=aC aM aU;have afl:=ae afk;clear cB aM ff aU afk q0;go_wp2;generalize w2.alloc (.cells #[.pointer (some ⟨b,0,none⟩),.slice (some ⟨w1.heap.size,0,none⟩) m.au.length m.au.length] 147)=w3 at *;go_loopw[8] (fun i wr=>∃k:Nat,Hid (k<=(R.jT m.au).length)/\i=.int .i64 k/\Hid (∀(j:Nat) l x,j<k->ins[j]?=some l->(gC m.au)[j]?=some x->(l.length:Int)=x/\l.all D.lq=true)/\Hid (tU w0 w wr b w2.heap.size w1.heap.size m.au.length (R.qE m.au ins k 0))/\Hid (w1.grownBy wr none)) (fun i _=>(R.jT m.au).length-(intOf i).toNat)
  case atStart=>exact⟨0,bK _,rfl,fun _ _ _ hj=>aN hj (wT _),Ln.out,afl.out⟩
  case round=>
   clear Ln afl;obtain⟨k,Hk,rfl,HA,HS,HW⟩:=hrel;have hk:=Hk.out;by_cases aJ:k<(R.jT m.au).length
   ·obtain⟨x,hx⟩:∃x,(R.jT m.au)[k]?=some x:=⟨_,aS aJ⟩
    obtain⟨n,t,rfl,fP,ht,k0,xL⟩:=R.KR _ _ (bj _) k x hx;obtain⟨aX,rfl,dX⟩:=(HX.out.Z HW.out).get k n hx;have vV:k<ins.length:=by rw[Hc.out];exact aJ
    obtain⟨l,hv⟩:∃l,ins[k]?=some l:=⟨_,aS vV⟩;obtain⟨aI,bI,cI,rfl,dI,ng⟩:=HI.out.get k l hv;have my:Hid ((gC m.au)[k]?=some (M.cellsOf t)):=by have e:=N6 ht k0;rw[xL] at e;exact e
    obtain⟨sU,n0,n1⟩:=HD.out n t ht;have hT:=(xI.out.t n t ht).Z HS.out.g;have HC:=ae (fun nd=>GD ga (n*6) t (wr.drewN nd) sU (aG (bE wr nd none) hT.h) (aG (bE wr nd none) hT.v) (aG (bE wr nd none) hT.c));have q0:wr.cell? ⟨b,0,none⟩=some (.slice (some ⟨ga,0,none⟩) m.au.length c1):=aG HS.out.g xI.out.q;obtain⟨N,hN⟩:=fT n0;rw[hN] at HC my n1;have Cw:=ae ng;have HSl:=ae (ng.sl G0.out);have Hv:=ae hv;have afn:=ae (R.arT ht k0 xL hv);have HdI:=ae dI;have HdX:=ae dX;have Ht:=ae ht;have oF:=Hl.out l (bU hv);clear hx ht k0 xL hv ng hT sU n0 hN dI;go_wp2_with fail;go_quiet(exact Calls.quiet_of (HC.out _));have jA:=ae (HS.out.Z (bE wr nq none));have HW1:=ae (aC HW.out (bE wr nq none));have dI:=aG jA.out.g HdI.out;have dX1:=aG (bE wr nq none) HdX.out;clear q0 dX HdX HC HS HW;generalize wr.drewN nq=wq at *;by_cases hlN:l.length=N
    ·subst hlN
     have b1:((l.length:Int)!=(l.length:Int))=false:=by simp
     go_wp2;go_loopw[10] (fun i w'=>∃j:Nat,j<=l.length/\i=.int .i64 j/\Hid (∀(q:Nat) v,q<j->l[q]?=some v->D.lq v=true)/\w'=wq) (fun i _=>l.length-(intOf i).toNat)
     case atStart=>exact⟨0,bK _,rfl,fun q v hq=>aN hq (wT _),rfl⟩
     case round=>
      obtain⟨j,hj,rfl,jY,AP⟩:=hrel;subst AP;by_cases hlj:j<l.length
      ·obtain⟨v,hv⟩:∃v,l[j]?=some v:=⟨_,aS hlj⟩
       obtain⟨aB,rfl,d0⟩:=(HSl.out.Z jA.out.g).get j v hv;have UZ:=ae hv;clear hv;by_cases h1:v < -128
       ·have He:=ae (Sv (md:=m) Hv.out (NZ UZ.out (by unfold D.lq;rw[show decide (-128<=v)=false from by simp;omega];rfl)))
        go_wp2
        go_ret2
        exact⟨jA.out.g,.inl ⟨He.out,rfl⟩⟩
       ·by_cases h2:127<v
        ·have He:=ae (Sv (md:=m) Hv.out (NZ UZ.out (by unfold D.lq;rw[show decide (v<=127)=false from by simp;omega];simp)))
         go_wp2
         go_ret2
         exact⟨jA.out.g,.inl ⟨He.out,rfl⟩⟩
        ·have fm:Hid (∀(q:Nat) u,q<j+1->l[q]?=some u->D.lq u=true):=fun q u hq hu=>by
          rcases cE q j with h' |h'
          ·exact jY.out q u h' hu
          ·obtain rfl:q=j:=by omega
           rw[UZ.out] at hu;injection hu with hu;subst hu;unfold D.lq;simp;omega
         go_wp2;go_roundw
         case rel=>exact⟨j+1,by omega,by go_num,fm.out,trivial⟩
         case measure=>simp[intOf];omega
      ·obtain rfl:j=l.length:=by omega
       have EC:=ae (ZR fun q v hv=>jY.out q v (M.bP hv) hv);obtain⟨l0,sj⟩:∃l0,(R.qE m.au ins k 0)[n]?=some l0:=⟨_,R.wR Ht.out⟩;have vd:=jA.out.Z (gE _ none);obtain⟨a0,cp0,z0,-,f0⟩:=vd.E4 sj;have r1:=jA.out.r.cell 1;simp only[show(#[Value.pointer (some ⟨b,0,none⟩),.slice (some ⟨w1.heap.size,0,none⟩) m.au.length m.au.length]:Array Value)[1]?=some (.slice (some ⟨w1.heap.size,0,none⟩) m.au.length m.au.length) from rfl] at r1;have gL:=ae (vd.set n (Cw.out.Z vd.g));rw[afn.out] at gL;have Lo:=ae (dF (aC HW1.out (gE _ none)) (bD _ w1.heap.size n (.slice bI l.length cI)) (bj _));have mW:Hid (∀(j:Nat) l x,j<k+1->ins[j]?=some l->(gC m.au)[j]?=some x->(l.length:Int)=x/\l.all D.lq=true):=fun q u x hq hu hx=>by
        rcases cE q k with h' |h'
        ·exact HA.out q u x h' hu hx
        ·obtain rfl:q=k:=by omega
         rw[Hv.out] at hu;injection hu with hu;subst hu;rw[my.out] at hx;injection hx with hx;exact⟨hx,EC.out⟩
       clear sj vd HSl Cw afn;go_wp2;go_still_tail 12,(by kernel_rfl);show wpList _ _ _ _ _ (World.drew _);clear r1 dI dX1;go_wp2;go_roundw
       case rel=>exact⟨k+1,(show k+1<=_ by omega),by go_num,mW.out,gL.out,Lo.out⟩
       case measure=>simp[intOf];omega
    ·have b1:((l.length:Int)!=(N:Int))=true:=by simp;omega
     have He:=ae (ZT Hv.out my.out (by omega));clear hlN;go_wp2
     go_ret2
     exact⟨jA.out.g,.inl ⟨He.out,rfl⟩⟩
   ·obtain rfl:k=(R.jT m.au).length:=by omega
    have Hh:Hid (D.jP m ins=true):=ZU (by rw[Hc.out,Hix.out]) fun q l x hl hx=>HA.out q l x (by rw[<-Hc.out];exact M.bP hl) hl hx;rw[UW] at HS;have q0:wr.cell? ⟨b,0,none⟩=some (.slice (some ⟨ga,0,none⟩) m.au.length c1):=aG HS.out.g xI.out.q;clear HA HW HX Hk hk aJ hb;go_wp2;clear q0;go_loopw[11] (fun i w'=>∃k:Nat,Hid (k<=m.au.length)/\i=.int .i64 k/\Hid (tU w0 w w' b w2.heap.size w1.heap.size m.au.length (R.qE m.au ins (H.cy m.au m.au.length) k))) (fun i _=>m.au.length-(intOf i).toNat)
    case atStart=>exact⟨0,bK _,rfl,HS.out⟩
    case round=>
     clear HS;obtain⟨k,Hk,rfl,HS⟩:=hrel;have hk:=Hk.out;have q0:=aG HS.out.g (show w.cell? ⟨b,0,none⟩=some (.slice (some ⟨ga,0,none⟩) m.au.length c1) from xI.out.q);by_cases aJ:k<m.au.length
     ·obtain⟨t,ht⟩:∃t,m.au[k]?=some t:=⟨_,aS aJ⟩
      obtain⟨aD,cD,hD,d0,d5⟩:=atP HG.out xI.out ht;have Ba:=aG HS.out.g d0;by_cases vF:t.af=1\/t.af=2
      ·obtain⟨l0,sj⟩:∃l0,(R.qE m.au ins (H.cy m.au m.au.length) k)[k]?=some l0:=⟨_,R.wR ht⟩
       have vd:=HS.out.Z (gE _ none);obtain⟨a0,cp0,z0,-,f0⟩:=vd.E4 sj;have r1:=HS.out.r.cell 1;simp only[show(#[Value.pointer (some ⟨b,0,none⟩),.slice (some ⟨w1.heap.size,0,none⟩) m.au.length m.au.length]:Array Value)[1]?=some (.slice (some ⟨w1.heap.size,0,none⟩) m.au.length m.au.length) from rfl] at r1;have R4:=aG HS.out.g d5;have gL:=ae (vd.set k (.inr (.inl (hD.Z vd.g))));rw[R.arU ht vF] at gL;clear sj vd hD d5 d0 ht;by_cases xz:t.af=1
       ·rw[xz] at Ba
        clear vF xz;go_wp2;go_still_tail 13,(by kernel_rfl);show wpList _ _ _ _ _ (World.drew _);clear r1 R4 Ba q0;go_wp2;go_roundw
        case rel=>exact⟨k+1,(show k+1<=_ by omega),by go_num,gL.out⟩
        case measure=>simp[intOf];omega
       ·have qo:t.af=2:=by omega
        rw[qo] at Ba;clear vF xz qo;go_wp2;go_still_tail 13,(by kernel_rfl);show wpList _ _ _ _ _ (World.drew _);clear r1 R4 Ba q0;go_wp2;go_roundw
        case rel=>exact⟨k+1,(show k+1<=_ by omega),by go_num,gL.out⟩
        case measure=>simp[intOf];omega
      ·have b1:(t.af==1)=false:=by simp;omega
       have b2:(t.af==2)=false:=by simp;omega
       have He:=ae (R.arV (ins:=ins) (i:=H.cy m.au m.au.length) ht vF);clear hD d5 d0 ht vF;go_wp2;go_roundw
       case rel=>exact⟨k+1,(show k+1<=_ by omega),by go_num,by rw[He.out];exact HS.out⟩
       case measure=>simp[intOf];omega
     ·obtain rfl:k=m.au.length:=by omega
      rw[R.arW (fun t ht=>⟨(H1.out.dQ.ts t ht).k0,(H1.out.dQ.ts t ht).k1⟩),<-R.afe] at HS;obtain⟨a1,rX,a2,c2,a3,c3,yV,-,hOs,hUs⟩:=HG.out;have Q1:=ae (show w.cell? ⟨b,1,none⟩=some (.slice a2 m.ag.length c2) by have e:=yV.cell 1;simp only[R.dp,jb] at e;exact e);have Q2:=ae (show w.cell? ⟨b,2,none⟩=some (.slice a3 m.aK.length c3) from yV.cell 2);have HOs:=ae hOs;have HUs:=ae hUs;have q1:=aG HS.out.g Q1.out;clear yV hOs hUs Hk hk aJ;go_wp2;clear q0 q1;go_loopw[12] (fun i w'=>∃k:Nat,Hid (k<=m.ag.length)/\i=.int .i64 k/\Hid (tU w0 w w' b w2.heap.size w1.heap.size m.au.length (R.vc m ins k))) (fun i _=>m.ag.length-(intOf i).toNat)
      case atStart=>exact⟨0,bK _,rfl,HS.out⟩
      case round=>
       clear HS;obtain⟨k,Hk,rfl,HS⟩:=hrel;have hk:=Hk.out;have q1:=aG HS.out.g Q1.out;by_cases aJ:k<m.ag.length
       ·obtain⟨o,ho⟩:∃o,m.ag[k]?=some o:=⟨_,aS aJ⟩
        obtain⟨go,rfl,-,Dt⟩:=HOs.out.bN k (R.bJ o) (by show(m.ag.map R.bJ)[k]?=_;rw[dV,ho];rfl);obtain⟨z0,z1,-⟩:=O.mo (H1.out.to k o ho);obtain⟨n,en⟩:=fT z0;have fP:n<m.au.length:=by omega
        have ht:m.au[n]?=some (M.aq m o.to):=by have e:=(O.kP z0 z1).1;rw[show o.to.toNat=n by omega] at e;exact e
        obtain⟨C,hE⟩:=R.atH H1.out Hh.out k hk;obtain⟨hRd,Ah⟩:=R.atG H1.out hE ho;have HRd:=ae hRd;have eJ:=ae (R.afd (ins:=ins) ho);rw[Ah,show o.to.toNat=n by omega] at eJ;have ⟨_,_,_,_,_,_,o2,_,_,_⟩:=Dt;have yq:w.cell? ⟨go,k*4+2,none⟩=some (.int .i64 (n:Int)):=by rw[<-en];exact o2
        have hT:=xI.out.t n _ ht;obtain⟨sU,n0,n1⟩:=HD.out n _ ht;obtain⟨zh,Pz⟩:=fT sU.h0;obtain⟨zw,PA⟩:=fT sU.w0;obtain⟨zc,PB⟩:=fT sU.c0;have b1:=sU.h1;have b2:=sU.w1;have b3:=sU.c1;have T1:=hT.h;have T2:=hT.v;have T3:=hT.c;rw[Pz] at T1 b1;rw[PA] at T2 b2;rw[PB] at T3 b3;have HM:Hid (zh*zw*zc<=512):=by
         unfold M.cellsOf at n1;rw[Pz,PA,PB] at n1;unfold Hid
         exact_mod_cast n1
        have TT1:=ae T1;have TT2:=ae T2;have TT3:=ae T3;have UP:=ae Dt;have OO:=ae yq;have q0:=aG HS.out.g (show w.cell? ⟨b,0,none⟩=some (.slice (some ⟨ga,0,none⟩) m.au.length c1) from xI.out.q);have o2:=aG HS.out.g yq;have zT:=ae (And.intro Pz (And.intro PA PB));clear Ah hE hRd ho Dt ht hT sU n0 n1 Pz PA PB T1 T2 T3 yq en z0 z1;go_wp2;go_quiet(fail);have jS:=ae (HS.out.Z (bE wr nq none));clear q0 q1 o2 HS;generalize wr.drewN nq=w4 at *;have t1:=aG jS.out.g TT1.out;go_wp2;clear t1;obtain⟨f,Hf⟩:∃f,Hid (D.cell o (O.dd m o (D.bW C o.a) (D.bW C o.b))=f):=⟨_,rfl⟩;rw[Hf.out] at eJ;go_loopw[15,16] (fun v i w'=>∃(y q:Nat) (ao:Option Addr) (cq:Nat),y<=zh/\i=.int .i64 y/\v=.slice ao q cq/\Hid (q=(y*zw+0)*zc+0)/\Hid (aZ w' w4.heap.size (.slice ao q cq) (O.qV (M.aq m o.to) f q))/\Hid (w4.grownBy w' none)) (fun _ i _=>zh-(intOf i).toNat)
        case atStart=>exact⟨0,0,none,0,bK _,rfl,rfl,(show _=_ by simp),aZ.nil _ _,fZ _ _⟩
        case round=>
         obtain⟨y,q,ao,cq,hy,rfl,rfl,Hq,HQ,HW⟩:=hrel;have t1:=aG (aC jS.out.g HW.out) TT1.out;by_cases hyl:y<zh
         ·have t2:=aG (aC jS.out.g HW.out) TT2.out
          go_wp2;clear t1 t2;go_loopw[15,17] (fun v i w'=>∃(x q:Nat) (ao:Option Addr) (cq:Nat),x<=zw/\i=.int .i64 x/\v=.slice ao q cq/\Hid (q=(y*zw+x)*zc+0)/\Hid (aZ w' w4.heap.size (.slice ao q cq) (O.qV (M.aq m o.to) f q))/\Hid (w4.grownBy w' none)) (fun _ i _=>zw-(intOf i).toNat)
          case atStart=>exact⟨0,q,ao,cq,bK _,rfl,rfl,Hq.out,HQ.out,HW.out⟩
          case round=>
           clear Hq HQ HW;obtain⟨x,q,ao,cq,hx,rfl,rfl,Hq,HQ,HW⟩:=hrel;have t2:=aG (aC jS.out.g HW.out) TT2.out;by_cases uH:x<zw
           ·have t3:=aG (aC jS.out.g HW.out) TT3.out
            go_wp2;clear t2 t3;go_loopw[15,18] (fun v i w'=>∃(z q:Nat) (ao:Option Addr) (cq:Nat),z<=zc/\i=.int .i64 z/\v=.slice ao q cq/\Hid (q=(y*zw+x)*zc+z)/\Hid (aZ w' w4.heap.size (.slice ao q cq) (O.qV (M.aq m o.to) f q))/\Hid (w4.grownBy w' none)) (fun _ i _=>zc-(intOf i).toNat)
            case atStart=>exact⟨0,q,ao,cq,bK _,rfl,rfl,Hq.out,HQ.out,HW.out⟩
            case round=>
             clear Hq HQ HW;obtain⟨z,q,ao,cq,hz,rfl,rfl,Hq,HQ,HW⟩:=hrel;have t3:=aG (aC jS.out.g HW.out) TT3.out;by_cases wH:z<zc
             ·have hql:q<512:=by
               have e:=Yr hyl uH wH;have e2:=HM.out;rw[<-Hq.out] at e;omega
              have fm:=ae (Yq (t:=M.aq m o.to) (f:=f) zT.out.2.1 zT.out.2.2 uH wH Hq.out);have HC:=ae (atF w2.heap.size b ga c1 w1.heap.size go (k*4) (R.dp m) (R.vc m ins k) m o _ _ y x z wr ((jS.out.Z HW.out).rnr xI.out (show m.au.length<=255 by omega)) (UP.out.Z (aC jS.out.g HW.out)) rfl HRd.out (by omega) (by rw[zT.out.1];omega) (by omega) (by rw[zT.out.2.1];omega) (by omega) (by rw[zT.out.2.2];omega));rw[Hf.out] at HC;obtain⟨v,Hv⟩:∃v,Hid (f y x z=v):=⟨_,rfl⟩;rw[Hv.out] at HC fm;go_wp2_with fail;refine HC.out.mono ?_;rintro e w5⟨rfl,cK⟩;have Kz:=ae (aC HW.out cK);have PC:=ae (HQ.out.Z cK);clear HC cK HW HQ t3;have U0:=ae PC.out.len;go_wp2_with(at_builtin;refine nD _ rfl _ _ 33 rfl w4.heap.size 3 j0 (.int .i64 0) 1 8 underlying33 UX vZ qq wg rfl (by decide) _ _ _ rfl (lB PC.out _) ⟨w5.heap.size,0,none⟩ 1 1 [.int .i64 v] rfl rfl ?c1 ?c2 ?c3 ?c4 ?c5 ?_)
              case c1=>exact kb w5 3 #[.int .i64 v]
              case c2=>intro u hu;simp at hu;subst hu;rfl
              case c3=>unfold maxLen;rw[<-U0.out];omega
              case c4=>rw[<-U0.out];omega
              case c5=>have:=Kz.out.size;simp;omega
              intro v' w9 cB cR _;have bq:w5.grownBy w9 (Value.slice ao q cq).ownBlock:=aC (aQ w5 _ _) cR;have dR:=mJ PC.out;have I9:aZ w9 w4.heap.size v' (O.qV (M.aq m o.to) f q++[v]):=by unfold aZ;simpa using cB
              rw[<-fm.out] at I9;obtain⟨AL,c',hv⟩:=gP I9;rw[Jn] at hv;subst hv;have lD:=ae I9;have jh:=ae (l8 Kz.out bq (fun g hg=>by have:=dR g hg;omega));clear cB cR bq dR I9 PC Kz U0;go_wp2;go_roundw
              case rel=>exact⟨z+1,q+1,AL,c',by omega,by go_num,rfl,(show q+1=(y*zw+x)*zc+(z+1) by rw[Hq.out];rfl),lD.out,jh.out⟩
              case measure=>simp[intOf];omega
             ·obtain rfl:z=zc:=by omega
              go_wp2;go_roundw
              case rel=>exact⟨x+1,q,ao,cq,by omega,by go_num,rfl,(show q=(y*zw+(x+1))*z+0 by rw[Hq.out,<-Nat.add_assoc,Nat.add_mul (y*zw+x) 1 z];omega),HQ.out,HW.out⟩
              case measure=>simp[intOf];omega
           ·obtain rfl:x=zw:=by omega
            go_wp2;go_roundw
            case rel=>exact⟨y+1,q,ao,cq,by omega,by go_num,rfl,(show q=((y+1)*x+0)*zc+0 by rw[Hq.out,Nat.add_mul y 1 x,Nat.one_mul];rfl),HQ.out,HW.out⟩
            case measure=>simp[intOf];omega
         ·obtain rfl:y=zh:=by omega
          have sw:=ae (jS.out.Z HW.out);have hQ:=HQ.out;have eq:q=(M.cellsOf (M.aq m o.to)).toNat:=by
           have e:M.cellsOf (M.aq m o.to)=((y*zw*zc:Nat):Int):=by unfold M.cellsOf;rw[zT.out.1,zT.out.2.1,zT.out.2.2];simp
           rw[e,eC,Hq.out];rfl
          have U1:=hQ.len;have zy:O.qV (M.aq m o.to) f q=D.oT (M.aq m o.to) f:=by rw[eq];exact Yp _ _
          rw[zy] at hQ U1;have Heq:=ae eq;clear eq zy;obtain⟨L,HL⟩:∃L,Hid (D.oT (M.aq m o.to) f=L):=⟨_,rfl⟩;rw[HL.out] at hQ U1 eJ;have dh:=jS.out.r.lt;have vd:=sw.out.Z (gE _ none);obtain⟨l0,sj⟩:∃l0,(R.vc m ins k)[n]?=some l0:=⟨_,aS (by rw[R.UU ins k hk];exact fP)⟩;obtain⟨a0,cp0,z0,-,f0⟩:=vd.E4 sj;have r1:=sw.out.r.cell 1;simp only[show(#[Value.pointer (some ⟨b,0,none⟩),.slice (some ⟨w1.heap.size,0,none⟩) m.au.length m.au.length]:Array Value)[1]?=some (.slice (some ⟨w1.heap.size,0,none⟩) m.au.length m.au.length) from rfl] at r1;have o2:=aG sw.out.g OO.out;subst U1;have Lp:=ae (vd.set n (.inr (.inl ((hQ.Z (gE _ none)).mono (bK _)))));rw[<-eJ.out] at Lp;clear hQ vd sj Hq HQ HW jS Heq;go_wp2;go_still_tail 9,(by kernel_rfl);show wpList _ _ _ _ _ (World.drew _);clear r1 o2 t1;go_wp2;go_roundw
          case rel=>exact⟨k+1,(show k+1<=_ by omega),by go_num,Lp.out⟩
          case measure=>simp[intOf];omega
       ·obtain rfl:k=m.ag.length:=by omega
        rw[R.aff] at HS;have hEl:(D.fM m ins).length=m.au.length:=by rw[<-R.aff];exact R.UU ins _ (bj _)
        have HEl:=ae hEl;have u2:=aG HS.out.g Q2.out;clear Hk hk aJ hEl;obtain⟨w8,Hw8⟩:∃w8,Hid (wr=w8):=⟨_,rfl⟩;rw[Hw8.out] at HS;go_wp2;clear q1 u2;go_loopw[20,21] (fun v i w'=>∃(k:Nat) (ao:Option Addr) (cq:Nat) (vs:List Value),Hid (k<=m.aK.length)/\i=.int .i64 k/\v=.slice ao k cq/\Hid (w'.ownsRow w8.heap.size 33 1 (.slice ao k cq) k vs)/\Hid (sH w0 w8 vs (R.Bw m ins k) k)/\Hid (w8.grownBy w' none)) (fun _ i _=>m.aK.length-(intOf i).toNat)
        case atStart=>exact⟨0,none,0,[],bK _,rfl,rfl,ki _ _ _ _,sH.nil _ _,by rw[Hw8.out];exact fZ _ _⟩
        case round=>
         obtain⟨k,ao,cq,vs,Hk,rfl,rfl,HQ,HV,HW⟩:=hrel;have hk:=Hk.out;have vz:=aC HS.out.g HW.out;have u2:=aG vz Q2.out;by_cases aJ:k<m.aK.length
         ·obtain⟨x,hx⟩:∃x,m.aK[k]?=some x:=⟨_,aS aJ⟩
          obtain⟨x0,x1⟩:=R.atL H1.out (bU hx);have PD:=R.Ll x0 x1 HEl.out;obtain⟨n,en⟩:=fT x0;obtain⟨gu,ea,-,-,d0⟩:=HUs.out.get k x hx;subst ea;have HRt:=ae (R.atI (ins:=ins) hx);obtain⟨l,SM⟩:∃l,Hid (D.bW (D.fM m ins) x=l):=⟨_,rfl⟩;rw[SM.out] at HRt PD;rw[en] at d0;rw[show x.toNat=n by omega] at PD;have fP:n<m.au.length:=by omega
          obtain⟨aL,cL,z0,ng,-⟩:=HS.out.E4 PD;have r1:=(HS.out.r.kept HW.out (by simp)).cell 1;simp only[show(#[Value.pointer (some ⟨b,0,none⟩),.slice (some ⟨w1.heap.size,0,none⟩) m.au.length m.au.length]:Array Value)[1]?=some (.slice (some ⟨w1.heap.size,0,none⟩) m.au.length m.au.length) from rfl] at r1;have y1:=cell_regrown r1;have y2:=cell_regrown u2;have y3:=cell_regrown (aG vz d0);have y4:=cell_regrown (aG HW.out z0);have HV2:=ae (HV.out.py (l:=l) (a:=aL) (cp:=cL) ng);rw[<-HRt.out] at HV2;have HP:=ae (eY HQ.out (gE wr none));clear hx x0 x1 PD en d0 z0 ng r1 vz Hk hk;go_wp2;clear u2;refine CR 14 15 (fun w'=>∃p:Regrown,w'=Go.Sort.grow (redrawn wr p.d) p.os) (wr.drew.alloc (.cells #[.slice aL l.length cL] 33)) (by kernel_rfl) (by kernel_rfl) (by decide) ⟨⟨wr.drawn+1,#[]⟩,by rw[Go.Sort.grow_empty];rfl⟩ ⟨⟨wr.drawn+1,#[.cells #[.slice aL l.length cL] 33]⟩,rfl⟩ ?_;simp only[List.take_succ_cons,List.take_zero,List.drop_succ_cons,List.drop_zero]
          repeat (refine zF (by decide) (fun K hK=>?_);go_simp;refine hK _ ?_;clear hK K)
          refine CS (.slice (some ⟨wr.heap.size,0,none⟩) 1 1) ?hw ?hr ?_
          case hw=>rfl
          case hr=>go_simp
          refine CT ?_;clear y1 y2 y3 y4;go_wp2_with(at_builtin;refine nD _ rfl _ _ 25 rfl w8.heap.size 33 i0 (.slice none 0 0) 1 24 underlying25 mB cP cQ cZ rfl (by decide) _ _ _ rfl (lB HP.out _) ⟨wr.heap.size,0,none⟩ 1 1 [.slice aL l.length cL] rfl rfl ?c1 ?c2 ?c3 ?c4 ?c5 ?_)
          case c1=>exact kb wr.drew 33 #[.slice aL l.length cL]
          case c2=>intro u hu;simp at hu;subst hu;rfl
          case c3=>unfold maxLen;omega
          case c4=>omega
          case c5=>have:=HW.out.size;simp;omega
          intro v' w9 cB cR _;have bq:wr.grownBy w9 (Value.slice ao k cq).ownBlock:=aC (aC (aQ wr _ _) (gE _ _)) cR;have dR:=mJ HQ.out;obtain⟨AL,c',hv⟩:=gP cB;subst hv;have HQ9:Hid (w9.ownsRow w8.heap.size 33 1 (.slice AL (k+1) c') (k+1) (vs++[.slice aL l.length cL])):=cB;have jh:=ae (l8 HW.out bq (fun g hg=>by have:=dR g hg;omega));clear cB cR bq dR HP HQ;go_wp2;go_roundw
          case rel=>exact⟨k+1,AL,c',vs++[Value.slice aL l.length cL],(show k+1<=_ by omega),by go_num,rfl,HQ9,HV2,jh⟩
          case measure=>simp[intOf];omega
         ·obtain rfl:k=m.aK.length:=by omega
          rw[R.atJ] at HV;have HF:=ae (HV.out.Z HW.out);have HQ':=ae (nC HQ.out HS.out.g.size);have SF:=ae vz;clear vz;go_wp2
          go_ret2
          exact⟨SF.out,.inr ⟨Hh.out,ao,cq,vs,rfl,HQ'.out,HF.out⟩⟩
 ·have hb:((ins.length:Int)!=((R.jT m.au).length:Int))=true:=by simp;omega
  have He:=ae (ZS (md:=m) (ins:=ins) (by rw[<-Hix.out];exact hc));clear hc;go_wp2
  go_ret2
  exact⟨G1.out,.inl ⟨He.out,rfl⟩⟩
end Go.Proofs.YtcnhfffgbamonaaGreat
