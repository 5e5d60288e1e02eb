import Derived.Test.YtcnhfffgbamonabGreatZ41
import Derived.Test.YtcnhfffgbamonabGreatZ37
import Derived.Test.YtcnhfffgbamonabGreatZ36
set_option maxRecDepth 100000
set_option maxHeartbeats 6400000
namespace Go.Proofs.YtcnhfffgbamonabGreat
open Go.Proofs.Tryz
open Go.RowKit
namespace R
theorem auw{g:bX}(h:uE g=false):rZ g=3:=by unfold rZ;rw[ay h]
theorem auy{g:bX}(h:uE g=true)(h2:pJ g=false):rZ g=4:=by unfold rZ;rw[ak (by simp[h]),ay h2]
theorem auz{g:bX}(h:uE g=true)(h2:pJ g=true)(h3:g.ag.all (gE g)=false):rZ g=5:=by unfold rZ;rw[ak (by simp[h]),ak (by simp[h2]),ay h3]
theorem auA{g:bX}(h:uE g=true)(h2:pJ g=true)(h3:g.ag.all (gE g)=true)(h4:xS g=false):rZ g=6:=by unfold rZ;rw[ak (by simp[h]),ak (by simp[h2]),ak (by simp[h3]),ay h4]
theorem auB{g:bX}(h:uE g=true)(h2:pJ g=true)(h3:g.ag.all (gE g)=true)(h4:xS g=true):rZ g=0:=by unfold rZ;rw[ak (by simp[h]),ak (by simp[h2]),ak (by simp[h3]),ak (by simp[h4])]
end R
theorem afY(b:Nat)(g:R.bX)(w:World)(h:lB w b g)(hw:EC g) :
  Calls prog 72 #[.pointer (some ⟨b,0,none⟩)] w fun e w'=>e=.returned (.int .i64 (R.rZ g))/\w.grownBy w' none:=by
 have j9:=hw.no;have HW:=ae hw;have zo:=ae h;clear h hw;go_enter func72,ntmps72;go_wp2_with fail;refine(aqL b g w zo.out HW.out).mono ?_;rintro e w1⟨rfl,g1⟩
 cases hs:R.uE g with
 | false=>
  have HN:=ae (R.auw hs);go_wp2;go_ret;exact⟨cE HN.out.symm,g1⟩
 | true=>
  have HS:=ae hs;have G1:=ae g1;have afZ:=ae (zo.out.Z g1);clear hs g1;go_wp2_with fail;refine(arq b g w1 afZ.out HW.out).mono ?_;rintro e w2⟨rfl,g2⟩;have G2:=ae (aC G1.out g2);have ayj:=ae (zo.out.Z G2.out);clear g2 G1 afZ
  cases ho:R.pJ g with
  | false=>
   have HN:=ae (R.auy HS.out ho);go_wp2;go_ret;exact⟨cE HN.out.symm,G2.out⟩
  | true=>
   have HOr:=ae ho;clear ho;go_wp2;go_loopw[3,4] (fun a i wr=>∃j:Nat,Hid (j<=g.ag.length)/\i=.int .i64 j/\a=.bool true/\Hid (∀(m:Nat) o,m<j->g.ag[m]?=some o->R.gE g o=true)/\w.grownBy wr none) (fun _ i _=>g.ag.length-(intOf i).toNat)
   case atStart=>exact⟨0,bK _,rfl,rfl,(fun m t hm=>aN hm (wG m)),G2.out⟩
   case round=>
    obtain⟨j,Hj,rfl,rfl,HA,bO⟩:=hrel;have cT:=ae bO;have Va:=ae (zo.out.Z bO);obtain⟨a1,c1,a2,c2,a3,c3,hB,hT,hO,hU⟩:=Va.out;have q1:wr.cell? ⟨b,1,none⟩=some (.slice a2 g.ag.length c2):=hB.cell 1;by_cases aK:j<g.ag.length
    ·obtain⟨o,ho⟩:∃o,g.ag[j]?=some o:=⟨_,aT aK⟩
     obtain⟨go,eo,-,Dd⟩:=hO.bN j o ho;subst eo;have Cy:0<g.ts.length:=by
      have h1:=(R.U2 HOr.out ho).1;have h2:=(HW.out.os o (bV ho)).OD;omega
     obtain⟨ga,c9,Bg⟩:=Va.out.TN Cy;have HC:=ae (aud b ga c9 go j g o wr Bg Dd HW.out HOr.out ho);have Ho:=ae ho;have dU:=ae aK;clear hB hT hO hU Dd Bg ho bO Cy;go_wp2_with fail;refine HC.out.mono ?_;rintro e w3⟨rfl,g3⟩;have G3:=ae (aC cT.out g3);clear g3 HC q1
     cases hf:R.gE g o with
     | false=>
      have HN:=ae (R.auz HS.out HOr.out (R.Pk Ho.out hf));go_wp2;go_ret;exact⟨cE HN.out.symm,G3.out⟩
     | true=>
      have mS:Hid (∀(m:Nat) o,m<j+1->g.ag[m]?=some o->R.gE g o=true):=fun m o' hm iK=>by
       rcases cF m j with h' | h'
       ·exact HA.out m o' h' iK
       ·obtain rfl:m=j:=by omega
        rw[Ho.out] at iK;injection iK with iK;subst iK;exact hf
      clear hf;go_wp2;go_roundw
      case rel=>exact⟨j+1,(by have:=dU.out;unfold Hid;omega),by go_num,rfl,mS.out,G3.out⟩
      case measure=>have:=dU.out;simp[intOf];omega
    ·obtain rfl:j=g.ag.length:=by have:=Hj.out;omega
     have HF:=ae (R.Pm (p:=R.gE g) (l:=g.ag) (fun m o ho=>HA.out m o (by
      rcases cF m g.ag.length with h' | h'
      ·exact h'
      ·rw[cX h'] at ho;exact aN ho (by simp)) ho))
     clear aK hB hT hO hU bO;go_wp2_with fail;refine(auk b g wr Va.out HW.out HOr.out).mono ?_;rintro e w4⟨rfl,g4⟩;have G4:=ae (aC cT.out g4);clear g4 q1
     cases hq:R.xS g with
     | false=>
      have HN:=ae (R.auA HS.out HOr.out HF.out hq);go_wp2;go_ret;exact⟨cE HN.out.symm,G4.out⟩
     | true=>
      have HN:=ae (R.auB HS.out HOr.out HF.out hq);go_wp2;go_ret;exact⟨cE HN.out.symm,G4.out⟩
theorem Tryz.auC:(prog.info? 99).map (fun i=>(i.zero,i.size,i.bytes))=some (some (.agg #[.pointer none,.pointer none]),2,16):=by kernel_rfl
theorem xy.lh{w:World}{B p:Nat}{md:M.Md}(h:xy w B p md):O.iN md:=by
 obtain⟨m,an,cn,ab,cb,b1,b2,h1,h2,h3,h4,h5,h6⟩:=h;exact h6
structure Cmp(w w':World)(b base n:Nat)(vp vl vw va vn ve vr vt vo:Value)(ps:List Value)(mark:Int)(tl:List Td)(md:M.Md)(q gb gp cp gt ct C:Nat)(gJ:List Td):Prop where
 L:LW w' b (.slice (some ⟨gp,0,none⟩) (n+1) cp) vl vw va vn ve vr (.slice (some ⟨gt,0,none⟩) (tl.length+3) ct) (.int .i64 (mark+3*(4+(lQ md).length))) vo
 af1:w'.ownsRow base 99 2 (.slice (some ⟨gp,0,none⟩) (n+1) cp) (n+1) (ps++[.pointer (some ⟨q,0,none⟩),.pointer (some ⟨gb,0,none⟩)])
 zE:gJ.length=3
 T:Ts w' base (.slice (some ⟨gt,0,none⟩) (tl.length+3) ct) (tl++gJ)
 bB:∀t∈gJ,∀g∈t.iE,w.heap.size<=g/\C<=g
 apart:∀t∈tl++gJ,∀g∈t.iE,g≠b/\g≠gt
 af2:vt.ownBlock=some gt\/C<=gt
 af3:vp.ownBlock=some gp\/C<=gp
 ne:gp≠b/\gp≠gt
 af4:∀t∈tl++gJ,∀g∈t.iE,g≠gp
 P:zu w' w.heap.size C q md
 G:xY w' w.heap.size C gb (R.dp md)
 hC:C<=w'.heap.size
 Gk:w.heap.size<=C
 lh:O.iN md
 F:Fr (fun k=>k=b\/vp.ownBlock=some k\/vt.ownBlock=some k) w w'
theorem auD(b base n:Nat)(vp vl vw va vn ve vr vt vo:Value)(ps:List Value)(mark:Int)(tl:List Td)(s:ByteArray)(w:World)(hs:s.size<=9223372036854775807)
  (hL:LW w b vp vl vw va vn ve vr vt (.int .i64 mark) vo) (hp:w.ownsRow base 99 2 vp n ps) (hT:Ts w base vt tl) (Df:∀t∈tl,∀g∈t.iE,g≠b/\vt.ownBlock≠some g/\vp.ownBlock≠some g)
  (hv:∀g,vt.ownBlock=some g->g≠b/\vp.ownBlock≠some g) (FC:vp.ownBlock≠some b) (yK:base<=w.heap.size) (m0:0<=mark) (m1:mark<=900000000000) (hn:tl.length<=100000000) (j9:n<=100000000) :
  Calls prog 42 #[.pointer (some ⟨b,0,none⟩),.string s] w fun e w'=>e=.returned (.bool true) /\
   ((M.ff s≠0/\w.grownBy w' none)\/(M.ff s=0/\∃q gb gp cp gt ct C gJ,Cmp w w' b base n vp vl vw va vn ve vr vt vo ps mark tl (M.gm s).1 q gb gp cp gt ct C gJ)):=by
 obtain⟨i0,nJ,cQ,cR,cZ⟩:=info_parts Tryz.auC;have dh:=hL.lt;have hvp:∀g,vp.ownBlock=some g->g<w.heap.size:=fun g hg=>(jd hp g hg).2;have hvt:∀g,vt.ownBlock=some g->g<w.heap.size:=fun g hg=>(jd hT.1 g hg).2;have HL:=ae hL;have Hp:=ae hp;have HT:=ae hT;have EM:=ae Df;have Hv:=ae hv;have Hpb:=ae FC;have Hvp:=ae hvp;have Vb:=ae hvt;clear hL hp hT Df hv FC hvp hvt;go_enter func42,ntmps42;go_wp2_with fail;refine(amK s w hs).mono ?_;rintro e w1⟨aH,hc⟩;have G1:=ae aH;by_cases Gf:4096<s.size
 ·have hr:=R.atA Gf
  rcases hc with⟨eF,rfl⟩|⟨h0,-⟩
  ·rw[hr]
   have Cq:=ae eF;clear eF hr aH;go_wp2;go_ret;exact⟨rfl,.inl ⟨Cq.out,G1.out⟩⟩
  ·rw[hr] at h0;exact aN h0 (by decide)
 ·have BM:s.size<=4096:=by omega
  have HR:=ae (aqC s.data.toList w1 (by simpa using BM));have hS9:S9 s.data.toList=s:=by cases s;simp[S9]
  rw[hS9] at HR;have HN:Hid (R.ff s.data.toList=none->M.ff s=2):=fun h=>R.aty BM h;have HY:Hid (∀g,R.ff s.data.toList=some g->g=R.dp (M.gm s).1/\p8 (M.gm s).1/\M.ff s=R.rZ g):=fun g h=>R.atz BM h;have IA:¬(4096<(s.size:Int)):=by omega
  clear hS9;rcases hc with⟨eF,rfl⟩|⟨h0,q,hq,rfl,hPl⟩
  ·have Cq:=ae eF
   clear eF aH;obtain⟨x,Hx⟩:∃x,Hid (M.ff s=x):=⟨_,rfl⟩;rw[Hx.out];go_wp2_with fail;refine HR.out.mono ?_;rintro e w2⟨aM,h2⟩;have G2:=ae (aC G1.out aM);clear aM;rcases h2 with⟨hr,rfl⟩|⟨g,hr,rfl,Gy⟩
   ·have e2:=HN.out hr.out
    rw[Hx.out] at e2;subst e2;clear hr;go_wp2;go_ret;exact⟨rfl,.inl ⟨Cq.out,G2.out⟩⟩
   ·obtain⟨eg,hF,em⟩:=HY.out g hr.out
    subst eg;have HC:=ae (afY w1.heap.size _ w2 Gy (R.ae6 hF));rw[<-em,Hx.out] at HC;have mC:x≠0:=by rw[<-Hx.out];exact Cq.out
    have b1:(x != 0)=true:=by simpa using mC
    clear hr Gy hF em HR;go_wp2_with fail;refine HC.out.mono ?_;rintro e w3⟨rfl,aU⟩;have G3:=ae (aC G2.out aU);clear aU HC mC;go_wp2;go_ret;exact⟨rfl,.inl ⟨Cq.out,G3.out⟩⟩
  ·have H0:=ae h0
   have D7:=ae hPl;clear h0 hPl aH;go_wp2_with fail;refine HR.out.mono ?_;rintro e w2⟨aM,h2⟩;have Dc:=ae aM;have G2:=ae (aC G1.out aM);clear aM;rcases h2 with⟨hr,rfl⟩|⟨g,hr,rfl,Gy⟩
   ·have e2:=HN.out hr.out
    rw[H0.out] at e2;exact aN e2 (by decide)
   ·obtain⟨eg,hF,em⟩:=HY.out g hr.out
    subst eg;have HC:=ae (afY w1.heap.size _ w2 Gy (R.ae6 hF));rw[<-em,H0.out] at HC;have xF:=ae Gy;clear hr Gy hF em HR;go_wp2_with fail;refine HC.out.mono ?_;rintro e w3⟨rfl,aU⟩;have G3:=ae (aC G2.out aU);have uB:=ae ((D7.out.Z (aC Dc.out aU)));have aga:=ae (xF.out.Z aU);have AM:=G1.out.size;have Jn:=G3.out.size;have ayk:=(aC Dc.out aU).size;have qg:=ae (HL.out.kept G3.out (by simp));have La:=ae (iJ Hp.out G3.out (by simp));have qU:=ae (show Ts w3 base vt tl from ⟨iJ HT.out.1 G3.out (by simp),fun t ht=>(HT.out.2 t ht).Z G3.out⟩);have c0:w3.cell? ⟨b,0,none⟩=some vp:=qg.out.cell 0;have HTl:=ae (fun t ht g hg=>(HT.out.2 t ht).lt g hg);clear aU HC D7 xF Dc HL Hp HT;go_wp2_with (at_builtin;refine wpList_append_lies _ rfl _ _ 55 rfl base 99 i0 (.agg #[.pointer none,.pointer none]) 2 16 underlying55 nJ cQ cR cZ rfl (by decide) _ _ _ rfl (lP La.out _) ⟨w3.heap.size,0,none⟩ 1 1 [.pointer (some ⟨q,0,none⟩),.pointer (some ⟨w1.heap.size,0,none⟩)] rfl rfl ?c1 ?c2 ?c3 ?c4 ?c5 ?c6 (w3.heap.size+1) ?c7 ?_)
    case c1=>exact kb w3 99 #[.pointer (some ⟨q,0,none⟩),.pointer (some ⟨w1.heap.size,0,none⟩)]
    case c2=>intro u hu;simp at hu;rcases hu with rfl|rfl<;>rfl
    case c3=>decide
    case c4=>unfold maxLen;omega
    case c5=>omega
    case c6=>simp;omega
    case c7=>simp
    intro gp cp w4 cB cV jA aK;have bC:w3.grownBy w4 vp.ownBlock:=aC (aQ _ _ _) cV;have Dj:vp.ownBlock=some gp\/w3.heap.size<=gp:=jA.imp id (fun h=>by omega);have EP:gp≠b:=by
     rcases Dj with h|h
     ·intro e;subst e;exact Hpb.out h
     ·omega
    have Vc:gp<w4.heap.size:=(jd cB gp rfl).2;have B4:LW w4 b vp vl vw va vn ve vr vt (.int .i64 mark) vo:=qg.out.kept bC (fun e=>Hpb.out e.symm);have b0:w4.cell? ⟨b,0,none⟩=some vp:=B4.cell 0;have f0:=B4.free 0;have rm:=bC.size;have jX:=bD w4 b 0 (.slice (some ⟨gp,0,none⟩) (n+1) cp);have B5:LW (w4.setCell ⟨b,0,none⟩ (.slice (some ⟨gp,0,none⟩) (n+1) cp)) b (.slice (some ⟨gp,0,none⟩) (n+1) cp) vl vw va vn ve vr vt (.int .i64 mark) vo:=B4.set 0 (.slice (some ⟨gp,0,none⟩) (n+1) cp);have xu:(w4.setCell ⟨b,0,none⟩ (.slice (some ⟨gp,0,none⟩) (n+1) cp)).heap.size=w4.heap.size:=yi _ _ _;have Q5:=iJ cB jX (fun g hg e=>by have h1:some gp=some g:=hg;injection h1 with h1;injection e with e;exact EP (h1.trans e));have F5:Fr (fun k=>k=b\/vp.ownBlock=some k) w3 (w4.setCell ⟨b,0,none⟩ (.slice (some ⟨gp,0,none⟩) (n+1) cp)):=((Fr.refl _ _).iI bC (fun g hg=>.inr (.inr hg))).iI jX (fun g hg=>.inr (.inl (by injection hg with hg;exact hg.symm)));have T5:Ts (w4.setCell ⟨b,0,none⟩ (.slice (some ⟨gp,0,none⟩) (n+1) cp)) base vt tl:=⟨F5.jO qU.out.1 (fun g hg h=>by
      rcases h with h|h
      ·exact(Hv.out g hg).1 h
      ·exact(Hv.out g hg).2 h),fun t ht=>(qU.out.2 t ht).kept F5 (fun g hg h=>by
      rcases h with h|h
      ·exact(EM.out t ht g hg).1 h
      ·exact(EM.out t ht g hg).2.2 h)⟩
    have Vd:nL w.heap.size w3.heap.size w3 (w4.setCell ⟨b,0,none⟩ (.slice (some ⟨gp,0,none⟩) (n+1) cp)):=F5.gZ (bj _) (fun k h=>by
      rcases h with h|h
      ·omega
      ·have:=Hvp.out k h;omega)
    have P5:=uB.out.ED.gZ Vd;have R5:=(aga.out.aq6 (B:=w.heap.size) (by omega)).gZ Vd;have HC:=ae (ae7 b base q w1.heap.size w.heap.size w3.heap.size _ vl vw va vn ve vr vt vo mark tl _ _ B5 T5 (fun t ht g hg=>⟨(EM.out t ht g hg).1,(EM.out t ht g hg).2.1⟩) P5 R5 (by rw[xu];exact rm) (by omega) (fun g hg=>⟨(Hv.out g hg).1,by have:=Vb.out g hg;omega⟩) (by rw[xu];omega) m0 m1 hn uB.out.lh);have Lb:Fr (fun k=>k=b\/vp.ownBlock=some k\/vt.ownBlock=some k) w (w4.setCell ⟨b,0,none⟩ (.slice (some ⟨gp,0,none⟩) (n+1) cp)):=((Fr.uw G3.out).mono (fun k _ h=>by cases h)).trans (F5.mono (fun k _ h=>by
      rcases h with h|h
      ·exact .inl h
      ·exact .inr (.inl h)))
    have H5:=ae (And.intro Q5 (And.intro P5 (And.intro R5 Lb)));have Hg:=ae (And.intro Dj (And.intro EP Vc));have H1:=ae uB.out.lh;clear cB cV jA aK bC Dj EP B4 jX B5 Q5 F5 T5 Vd P5 R5 Lb uB aga qg La qU c0;go_wp2_with fail;generalize w4.setCell ⟨b,0,none⟩ (.slice (some ⟨gp,0,none⟩) (n+1) cp)=w5 at *;refine HC.out.mono ?_;rintro e w6⟨rfl,gt,ct,gJ,hL6,h3,Du,Ve,ha6,Vf,Lc⟩;obtain⟨Q5,P5,R5,Lb⟩:=H5.out;obtain⟨Dj,EP,Vc⟩:=Hg.out;have Vg:vt.ownBlock≠some gp:=fun e=>by
     rcases Dj with h|h
     ·exact(Hv.out gp e).2 h
     ·have:=Vb.out gp e;omega
    have Vh:nL w.heap.size w3.heap.size w5 w6:=Lc.gZ (by omega) (fun k h=>by
      rcases h with h|h
      ·omega
      ·have:=Vb.out k h;omega)
    have HE:Hid (Cmp w w6 b base n vp vl vw va vn ve vr vt vo ps mark tl (M.gm s).1 q w1.heap.size gp cp gt ct w3.heap.size gJ):=
     {L:=hL6
      af1:=Lc.jO Q5 (fun g hg h=>by
       have h1:some gp=some g:=hg;injection h1 with h1;subst h1;rcases h with h|h
       ·exact EP h
       ·exact Vg h)
      zE:=h3
      T:=Du
      bB:=fun t ht g hg=>by have:=Ve t ht g hg;omega
      apart:=ha6
      af2:=Vf.imp id (fun h=>by omega)
      af3:=Dj
      ne:=⟨EP,fun e=>by
       subst e;rcases Vf with h|h
       ·exact Vg h
       ·omega⟩
      af4:=fun t ht g hg e=>by
       subst e;rcases List.mem_append.1 ht with h|h
       ·rcases Dj with h' | h'
        ·exact(EM.out t h g hg).2.2 h'
        ·have:=HTl.out t h g hg;omega
       ·have:=Ve t h g hg;omega
      P:=P5.gZ Vh
      G:=R5.gZ Vh
      hC:=by have:=Lc.size;omega
      Gk:=by omega
      lh:=H1.out
      F:=Lb.trans (Lc.mono (fun k _ h=>by
       rcases h with h|h
       ·exact .inl h
       ·exact .inr (.inr h))) }
    clear hL6 h3 Du Ve ha6 Vf Lc Q5 P5 R5 Lb Dj EP Vc Vg Vh HC H5 Hg b0 f0;go_wp2;go_ret;exact⟨rfl,.inr ⟨H0.out,q,w1.heap.size,gp,cp,gt,ct,w3.heap.size,gJ,HE.out⟩⟩
theorem auG(b base Dp:Nat)(vp va vn ve vr mark:Value)(a1 a2 a7 a9:Option Addr)(n c1 c2 n7 c7 n9 c9:Nat)(ls:List (List Int))(tl:List Td)(gs:List (Nat×Nat))(w:World)
  (hL:LW w b vp (.slice a1 n c1) (.slice a2 n c2) va vn ve vr (.slice a7 n7 c7) mark (.slice a9 n9 c9)) (h1:rQ w (.slice a1 n c1) ls) (h2:rQ w (.slice a2 n c2) ls) (hl:∀l∈ls,l.length<=1000000000) (hn:ls.length<=1000000000)
  (hT:Ts w base (.slice a7 n7 c7) tl) (ht:tl.length<=1000000000) (hE:vQ w Dp (.slice a9 n9 c9) gs) (hg:gs.length<=1000000000) :
  Calls prog 23 #[.pointer (some ⟨b,0,none⟩)] w fun e w'=>e=.returned (.bool true)/\w.grownBy w' none:=by
 obtain rfl:=h1.len;have HL:=ae hL;have H1:=ae h1;have H2:=ae h2;have HT:=ae hT;have HE:=ae hE;have Hl:=ae hl;have q1:w.cell? ⟨b,1,none⟩=some (.slice a1 ls.length c1):=hL.cell 1;clear hL h1 h2 hT hE hl;go_enter func23,ntmps23;go_wp2;clear q1;go_loopw[3] (fun i w'=>∃k:Nat,k<=ls.length/\i=.int .i64 k/\Hid (w.grownBy w' none)) (fun i _=>ls.length-(intOf i).toNat)
 case atStart=>exact⟨0,bK _,rfl,gL _ _⟩
 case round=>
  obtain⟨k,hk,rfl,HG⟩:=hrel;have kQ:=HL.out.kept HG.out (by simp);have q1:wr.cell? ⟨b,1,none⟩=some (.slice a1 ls.length c1):=kQ.cell 1;have q2:wr.cell? ⟨b,2,none⟩=some (.slice a2 ls.length c2):=kQ.cell 2;by_cases aK:k<ls.length
  ·obtain⟨l,hx⟩:∃l,ls[k]?=some l:=⟨_,aT aK⟩
   obtain⟨p1,b1,d1,rfl,e1,s1⟩:=(H1.out.Z HG.out).get k l hx;obtain⟨p2,b2,d2,rfl,e2,s2⟩:=(H2.out.Z HG.out).get k l hx;have qi:=Hl.out l (bV hx);have HC:=ae (fun nd=>Jp b1 b2 l.length d1 l.length d2 l l (wr.drewN nd) (s1.Z (bF wr nd none)) (s2.Z (bF wr nd none)) (by omega) (by omega));rw[show decide (l=l)=true from by simp] at HC;clear hx s1 s2 kQ;go_wp2_with fail;go_quiet (exact Calls.quiet_of (HC.out _));have dN:=ae (aC HG.out (bF wr nq none));clear q1 q2 e1 e2 HC HG;generalize wr.drewN nq=wa at *;go_wp2;go_roundw
   case rel=>exact⟨k+1,by omega,by go_num,dN.out⟩
   case measure=>simp[intOf];omega
  ·obtain rfl:k=ls.length:=by omega
   have Ld:=ae (abB b base a7 n7 c7 tl wr (kQ.cell 7) ⟨iJ HT.out.1 HG.out (by simp),fun t ht=>(HT.out.2 t ht).Z HG.out⟩ ht);clear q2;go_wp2_with fail;refine Ld.out.mono ?_;rintro e wb⟨rfl,Cn⟩;have Gb:=ae (aC HG.out Cn);have Od:=ae (R8 b Dp a9 n9 c9 gs wb ((kQ.kept Cn (by simp)).cell 9) (HE.out.Z Gb.out) hg);clear Cn Ld q1 kQ;go_wp2_with fail;refine Od.out.mono ?_;rintro e wc⟨rfl,rfl⟩;clear Od;go_wp2;go_ret;exact⟨rfl,Gb.out⟩
structure Pn where
 q:Nat
 gb:Nat
 B:Nat
 C:Nat
 md:M.Md
structure Kl where
 g:Nat
 h:Nat
 l:List Int
structure Ct where
 vp:Value
 v1:Value
 v2:Value
 va:Value
 vn:Value
 ve:Value
 vr:Value
 vt:Value
 vo:Value
 mark:Int
 ps:List Pn
 ls:List Kl
 rg:List Value
 tl:List Td
 os:List (Nat×Nat)
def Ct.cb(c:Ct):List Nat:=c.ls.map (·.g)++c.ls.map (·.h)
def Ct.de(c:Ct)(b g:Nat):Prop:=g=b\/c.vp.ownBlock=some g\/c.v1.ownBlock=some g\/c.v2.ownBlock=some g\/c.vr.ownBlock=some g\/c.vt.ownBlock=some g\/c.vo.ownBlock=some g\/g∈c.cb
def Pp(p:Pn):List Value:=[.pointer (some ⟨p.q,0,none⟩),.pointer (some ⟨p.gb,0,none⟩)]
def wP(v:Value):Prop:=∃i:Int,v=.int .i64 i/\-9223372036854775808<=i/\i<=9223372036854775807
def Wn(ls:List Kl)(u:Value):Prop:=u=.slice none 0 0\/∃x∈ls,∃i n cp,u=.slice (some ⟨x.g,i,none⟩) n cp/\i+n<=x.l.length
structure St(wz w:World)(b k:Nat)(c:Ct):Prop where
 gz:wz.grownBy w none
 zb:wz.heap.size<=b
 L:LW w b c.vp c.v1 c.v2 c.va c.vn c.ve c.vr c.vt (.int .i64 c.mark) c.vo
 kp:w.ownsRow wz.heap.size 99 2 c.vp c.ps.length (c.ps.flatMap Pp)
 k1:w.ownsRow wz.heap.size 32 1 c.v1 c.ls.length (c.ls.map fun x=>dg x.g x.l)
 k2:w.ownsRow wz.heap.size 32 1 c.v2 c.ls.length (c.ls.map fun x=>dg x.h x.l)
 kr:w.ownsRow wz.heap.size 32 1 c.vr c.rg.length c.rg
 T:Ts w wz.heap.size c.vt c.tl
 E:vQ w wz.heap.size c.vo c.os
 pl:∀p∈c.ps,zu w p.B p.C p.q p.md/\xY w p.B p.C p.gb (R.dp p.md)/\O.iN p.md/\0<p.md.au.length/\p.C<=w.heap.size
 li:∀x∈c.ls,aj w x.g 3 (x.l.map (Value.int .i64)).toArray/\aj w x.h 3 (x.l.map (Value.int .i64)).toArray/\x.l.length<=1000000000
 nd:c.cb.Nodup
 zl:∀g∈c.cb,wz.heap.size<=g
 qy:∀u∈c.rg,Wn c.ls u
 yd:∀p∈c.ps,∀g,c.de b g->¬(p.B<=g/\g<p.C)
 uW:∀t∈c.tl,∀g∈t.iE,¬c.de b g
 tK:∀p∈c.os,¬c.de b p.1
 bR:∀g,c.v1.ownBlock=some g->c.v2.ownBlock≠some g
 q8:∀g,c.v1.ownBlock=some g->c.vr.ownBlock≠some g
 re:∀g,c.v2.ownBlock=some g->c.vr.ownBlock≠some g
 ia:wP c.va
 ie:wP c.vn
 ix:wP c.ve
 nl:c.ls.length<=300*k
 np:c.ps.length<=k
 nt:c.tl.length<=3*k
 no:c.os.length<=k
 nr:c.rg.length<=300*k
 m0:0<=c.mark
 m1:c.mark<=10000*k
theorem ER{c:Ct}{b g:Nat}(h:g∈c.cb):c.de b g:=.inr (.inr (.inr (.inr (.inr (.inr (.inr h))))))
theorem St.cbk{wz w:World}{b k:Nat}{c:Ct}(h:St wz w b k c){g:Nat}(hg:g∈c.cb):∃cs,aj w g 3 cs:=by
 rcases List.mem_append.1 hg with hg|hg
 ·obtain⟨x,hx,rfl⟩:=List.mem_map.1 hg;exact⟨_,(h.li x hx).1⟩
 ·obtain⟨x,hx,rfl⟩:=List.mem_map.1 hg;exact⟨_,(h.li x hx).2.1⟩
theorem St.lt{wz w:World}{b k:Nat}{c:Ct}(h:St wz w b k c){g:Nat}(hg:c.de b g):wz.heap.size<=g/\g<w.heap.size:=by
 rcases hg with rfl|hg|hg|hg|hg|hg|hg|hg
 ·exact⟨h.zb,h.L.lt⟩
 ·exact jd h.kp g hg
 ·exact jd h.k1 g hg
 ·exact jd h.k2 g hg
 ·exact jd h.kr g hg
 ·exact jd h.T.1 g hg
 ·exact jd h.E.1 g hg
 ·obtain⟨cs,hB⟩:=h.cbk hg
  exact⟨h.zl g hg,hB.lt⟩
theorem St.ED{wz w w':World}{b k:Nat}{c:Ct}{S:Nat->Prop}(h:St wz w b k c)(hF:Fr S w w')(hS:∀g,S g->c.de b g):∀p∈c.ps,zu w' p.B p.C p.q p.md/\xY w' p.B p.C p.gb (R.dp p.md)/\O.iN p.md/\0<p.md.au.length/\p.C<=w'.heap.size:=fun p hp=>by
 obtain⟨a1,a2,a3,a4,a5⟩:=h.pl p hp;have hs:=hF.gZ (B:=p.B) a5 (fun g hg=>h.yd p hp g (hS g hg));exact⟨a1.gZ hs,a2.gZ hs,a3,a4,jK a5 hF.size⟩
theorem St.Pq{wz w w':World}{b k:Nat}{c:Ct}{S:Nat->Prop}(h:St wz w b k c)(hF:Fr S w w')(hS:∀g cs,S g->¬aj w g 3 cs):∀x∈c.ls,aj w' x.g 3 (x.l.map (Value.int .i64)).toArray/\aj w' x.h 3 (x.l.map (Value.int .i64)).toArray/\x.l.length<=1000000000:=fun x hx=>by
 obtain⟨a1,a2,a3⟩:=h.li x hx;exact⟨hF.gF a1 (fun hs=>hS _ _ hs a1),hF.gF a2 (fun hs=>hS _ _ hs a2),a3⟩
theorem St.gr{wz w w':World}{b k:Nat}{c:Ct}{S:Nat->Prop}(h:St wz w b k c)(hF:Fr S w w')(hS:∀g,S g->c.de b g):wz.grownBy w' none:=Fr.gr h.gz hF (fun g hg=>(h.lt (hS g hg)).1)
theorem St.ts{wz w w':World}{b k:Nat}{c:Ct}{S:Nat->Prop}(h:St wz w b k c)(hF:Fr S w w')(hS:∀g,S g->c.de b g)(hv:∀g,c.vt.ownBlock=some g->¬S g):Ts w' wz.heap.size c.vt c.tl:=
 ⟨hF.jO h.T.1 hv,fun t ht=>(h.T.2 t ht).kept hF (fun g hg hs=>h.uW t ht g hg (hS g hs))⟩
theorem St.em{wz w w':World}{b k:Nat}{c:Ct}{S:Nat->Prop}(h:St wz w b k c)(hF:Fr S w w')(hS:∀g,S g->c.de b g)(hv:∀g,c.vo.ownBlock=some g->¬S g):vQ w' wz.heap.size c.vo c.os:=
 ⟨hF.jO h.E.1 hv,fun p hp=>⟨(h.E.2 p hp).1,hF.gF (h.E.2 p hp).2 (fun hs=>h.tK p hp (hS _ hs))⟩⟩
def Gz(w:World)(b:Nat)(c c':Ct):Prop:=∀g,c'.de b g->c.de b g\/w.heap.size<=g
theorem St.Vi{wz w:World}{b k:Nat}{c c':Ct}(h:St wz w b k c)(hn:Gz w b c c'):∀p∈c.ps,∀g,c'.de b g->¬(p.B<=g/\g<p.C):=fun p hp g hg=>by
 rcases hn g hg with h' | h'
 ·exact h.yd p hp g h'
 ·have:=(h.pl p hp).2.2.2.2;omega
theorem St.Vj{wz w:World}{b k:Nat}{c c':Ct}(h:St wz w b k c)(hn:Gz w b c c'):∀t∈c.tl,∀g∈t.iE,¬c'.de b g:=fun t ht g hg hh=>by
 rcases hn g hh with h' | h'
 ·exact h.uW t ht g hg h'
 ·have:=(h.T.2 t ht).lt g hg;omega
theorem St.Vk{wz w:World}{b k:Nat}{c c':Ct}(h:St wz w b k c)(hn:Gz w b c c'):∀p∈c.os,¬c'.de b p.1:=fun p hp hh=>by
 rcases hn p.1 hh with h' | h'
 ·exact h.tK p hp h'
 ·have:=(h.E.2 p hp).2.lt;omega
theorem St.grow{wz w w':World}{b k:Nat}{c:Ct}(h:St wz w b k c)(hg:w.grownBy w' none):St wz w' b k c:=
 have hF:Fr (fun _=>False) w w':=(Fr.uw hg).mono (fun k _ h=>by cases h)
 {h with
  gz:=aC h.gz hg
  L:=h.L.kept hg (by simp)
  kp:=iJ h.kp hg (by simp)
  k1:=iJ h.k1 hg (by simp)
  k2:=iJ h.k2 hg (by simp)
  kr:=iJ h.kr hg (by simp)
  T:=h.ts hF (fun _ e=>e.elim) (fun _ _ e=>e)
  E:=h.em hF (fun _ e=>e.elim) (fun _ _ e=>e)
  pl:=h.ED hF (fun _ e=>e.elim)
  li:=h.Pq hF (fun _ _ e=>e.elim) }
theorem St.vj{wz w:World}{b k k':Nat}{c:Ct}(h:St wz w b k c)(hk:k<=k'):St wz w b k' c:=
 {h with
  nl:=by have:=h.nl;omega
  np:=by have:=h.np;omega
  nt:=by have:=h.nt;omega
  no:=by have:=h.no;omega
  nr:=by have:=h.nr;omega
  m1:=by have:=h.m1;omega }
theorem St.b1{wz w:World}{b k:Nat}{c:Ct}(h:St wz w b k c):c.v1.ownBlock≠some b:=lD h.k1 h.L (by decide)
theorem St.b2{wz w:World}{b k:Nat}{c:Ct}(h:St wz w b k c):c.v2.ownBlock≠some b:=lD h.k2 h.L (by decide)
theorem St.br{wz w:World}{b k:Nat}{c:Ct}(h:St wz w b k c):c.vr.ownBlock≠some b:=lD h.kr h.L (by decide)
theorem St.bp{wz w:World}{b k:Nat}{c:Ct}(h:St wz w b k c):c.vp.ownBlock≠some b:=lD h.kp h.L (by decide)
theorem St.bt{wz w:World}{b k:Nat}{c:Ct}(h:St wz w b k c):c.vt.ownBlock≠some b:=lD h.T.1 h.L (by decide)
theorem St.bo{wz w:World}{b k:Nat}{c:Ct}(h:St wz w b k c):c.vo.ownBlock≠some b:=lD h.E.1 h.L (by decide)
def ct0:Ct:=⟨.slice none 0 0,.slice none 0 0,.slice none 0 0,.int .i64 0,.int .i64 0,.int .i64 0,.slice none 0 0,.slice none 0 0,.slice none 0 0,0,[],[],[],[],[]⟩
theorem St.bB(w:World):St w (w.alloc (.cells #[.slice none 0 0,.slice none 0 0,.slice none 0 0,.int .i64 0,.int .i64 0,.int .i64 0,.slice none 0 0,.slice none 0 0,.int .i64 0,.slice none 0 0] 58)) w.heap.size 1 ct0:=
 {gz:=aQ w _ none
  zb:=bj _
  L:=aj.bB w _ _
  kp:=kq _ _ _ _
  k1:=kq _ _ _ _
  k2:=kq _ _ _ _
  kr:=kq _ _ _ _
  T:=⟨kq _ _ _ _,fun t ht=>by cases ht⟩
  E:=⟨kq _ _ _ _,fun t ht=>by cases ht⟩
  pl:=fun p hp=>by cases hp
  li:=fun p hp=>by cases hp
  nd:=List.nodup_nil
  zl:=fun p hp=>by cases hp
  qy:=fun p hp=>by cases hp
  yd:=fun p hp=>by cases hp
  uW:=fun p hp=>by cases hp
  tK:=fun p hp=>by cases hp
  bR:=fun g e=>by cases e
  q8:=fun g e=>by cases e
  re:=fun g e=>by cases e
  ia:=⟨0,rfl,by decide,by decide⟩
  ie:=⟨0,rfl,by decide,by decide⟩
  ix:=⟨0,rfl,by decide,by decide⟩
  nl:=by decide
  np:=by decide
  nt:=by decide
  no:=by decide
  nr:=by decide
  m0:=by decide
  m1:=by decide }
theorem avc{s:ByteArray}(h0:M.ff s=0)(h1:O.iN (M.gm s).1):0<(M.gm s).1.au.length:=by
 have hc:M.check (M.gm s).1=0:=by
  unfold M.ff at h0
  split at h0
  ·contradiction
  ·exact h0
 have hl:M.m6 (M.gm s).1=true:=by
  unfold M.check at hc
  split at hc
  ·cases hc
  ·rename_i h;simpa using h
 unfold M.m6 at hl;simp only[fh,Bool.not_eq_true',Bool.or_eq_false_iff] at hl;have ho:=hl.1.1.2;rcases e:(M.gm s).1.aJ with _|⟨u,us⟩
 ·rw[e] at ho;cases ho
 ·have:=h1.aJ u (by rw[e];exact pq ..)
  unfold M.tW at this;omega
theorem avd{wz w:World}{b k:Nat}{c:Ct}(h:St wz w b k c)(hk:k<=3000000)(s:ByteArray)(hs:s.size<=9223372036854775807) :
  Calls prog 42 #[.pointer (some ⟨b,0,none⟩),.string s] w fun e w'=>e=.returned (.bool true) /\
   ((M.ff s≠0/\St wz w' b (k+1) c)\/(∃vp vt mark p tl,St wz w' b (k+1) { c with vp:=vp,vt:=vt,mark:=mark,ps:=c.ps++[p],tl:=tl })):=
 (auD b wz.heap.size c.ps.length c.vp c.v1 c.v2 c.va c.vn c.ve c.vr c.vt c.vo (c.ps.flatMap Pp) c.mark c.tl s w hs h.L h.kp h.T
  (fun t ht g hg=>⟨fun e=>h.uW t ht g hg (.inl e),fun e=>h.uW t ht g hg (.inr (.inr (.inr (.inr (.inr (.inl e)))))),fun e=>h.uW t ht g hg (.inr (.inl e))⟩)
  (fun g hg=>⟨fun e=>h.bt (by rw[<-e];exact hg),qw h.T.1 h.kp (by decide) g hg⟩) h.bp h.gz.size h.m0 (by have:=h.m1;omega) (by have:=h.nt;omega) (by have:=h.np;omega)).mono fun e w' ⟨he,hc⟩=>⟨he,by
  rcases hc with⟨eF,hg⟩|⟨h0,q,gb,gp,cp,gt,ct,C,gJ,hC⟩
  ·exact .inl ⟨eF,(h.grow hg).vj (by omega)⟩
  ·refine .inr ⟨.slice (some ⟨gp,0,none⟩) (c.ps.length+1) cp,.slice (some ⟨gt,0,none⟩) (c.tl.length+3) ct,c.mark+3*(4+(lQ (M.gm s).1).length),⟨q,gb,w.heap.size,C,(M.gm s).1⟩,c.tl++gJ,?_⟩
   have hS:∀g,(g=b\/c.vp.ownBlock=some g\/c.vt.ownBlock=some g)->c.de b g:=fun g hg=>by
    rcases hg with hg|hg|hg
    ·exact .inl hg
    ·exact .inr (.inl hg)
    ·exact .inr (.inr (.inr (.inr (.inr (.inl hg)))))
   have oG:∀{T:TypeId} {v:Value} {n t base:Nat} {xs:List Value},w.ownsRow base T t v n xs->T≠58->T≠99->T≠132->∀g,v.ownBlock=some g->¬(g=b\/c.vp.ownBlock=some g\/c.vt.ownBlock=some g):=fun ho n1 n2 n3 g hg hx=>by
    rcases hx with hx|hx|hx
    ·subst hx;exact lD ho h.L n1 hg
    ·exact qw ho h.kp n2 g hg hx
    ·exact qw ho h.T.1 n3 g hg hx
   have yU:∀g cs,(g=b\/c.vp.ownBlock=some g\/c.vt.ownBlock=some g)->¬aj w g 3 cs:=fun g cs hx hB=>by
    rcases hx with hx|hx|hx
    ·subst hx;exact aN (uR h.L hB) (by decide)
    ·exact lD h.kp hB (by decide) hx
    ·exact lD h.T.1 hB (by decide) hx
   obtain⟨c',bE⟩:∃c',c'=({ c with vp:=.slice (some ⟨gp,0,none⟩) (c.ps.length+1) cp,vt:=.slice (some ⟨gt,0,none⟩) (c.tl.length+3) ct,mark:=c.mark+3*(4+(lQ (M.gm s).1).length),ps:=c.ps++[⟨q,gb,w.heap.size,C,(M.gm s).1⟩],tl:=c.tl++gJ }:Ct):=⟨_,rfl⟩;have GA:∀g,c'.de b g->c.de b g\/(g=gp/\C<=gp)\/(g=gt/\C<=gt):=fun g hg=>by
    subst bE;rcases hg with hg|hg|hg|hg|hg|hg|hg|hg
    ·exact .inl (.inl hg)
    ·have e:some gp=some g:=hg
     injection e with e;rcases hC.af3 with h' | h'
     ·exact .inl (.inr (.inl (by rw[<-e];exact h')))
     ·exact .inr (.inl ⟨e.symm,h'⟩)
    ·exact .inl (.inr (.inr (.inl hg)))
    ·exact .inl (.inr (.inr (.inr (.inl hg))))
    ·exact .inl (.inr (.inr (.inr (.inr (.inl hg)))))
    ·have e:some gt=some g:=hg
     injection e with e;rcases hC.af2 with h' | h'
     ·exact .inl (.inr (.inr (.inr (.inr (.inr (.inl (by rw[<-e];exact h')))))))
     ·exact .inr (.inr ⟨e.symm,h'⟩)
    ·exact .inl (.inr (.inr (.inr (.inr (.inr (.inr (.inl hg)))))))
    ·exact .inl (ER hg)
   have hwC:w.heap.size<=C:=hC.Gk;have uV:Gz w b c c':=fun g hg=>by
    rcases GA g hg with h' | ⟨h',xX⟩|⟨h',xX⟩
    ·exact .inl h'
    ·exact .inr (by omega)
    ·exact .inr (by omega)
   rw[<-bE];have f:=(OG hC.lh).2.2.2.2;refine
    {gz:=h.gr hC.F hS
     zb:=h.zb
     L:=by subst bE;exact hC.L
     kp:=by subst bE;simpa[Pp] using hC.af1
     k1:=by subst bE;exact hC.F.jO h.k1 (oG h.k1 (by decide) (by decide) (by decide))
     k2:=by subst bE;exact hC.F.jO h.k2 (oG h.k2 (by decide) (by decide) (by decide))
     kr:=by subst bE;exact hC.F.jO h.kr (oG h.kr (by decide) (by decide) (by decide))
     T:=by subst bE;exact hC.T
     E:=by subst bE;exact h.em hC.F hS (oG h.E.1 (by decide) (by decide) (by decide))
     pl:=fun p hp=>by
      have iH:p∈c.ps++[⟨q,gb,w.heap.size,C,(M.gm s).1⟩]:=by subst bE;exact hp
      rcases List.mem_append.1 iH with iH|iH
      ·exact h.ED hC.F hS p iH
      ·obtain rfl:=List.mem_singleton.1 iH
       exact⟨hC.P,hC.G,hC.lh,avc h0 hC.lh,hC.hC⟩
     li:=by subst bE;exact h.Pq hC.F yU
     nd:=by subst bE;exact h.nd
     zl:=by subst bE;exact h.zl
     qy:=by subst bE;exact h.qy
     yd:=fun p hp g hg=>by
      have iH:p∈c.ps++[⟨q,gb,w.heap.size,C,(M.gm s).1⟩]:=by subst bE;exact hp
      rcases List.mem_append.1 iH with iH|iH
      ·exact h.Vi uV p iH g hg
      ·obtain rfl:=List.mem_singleton.1 iH
       show ¬(w.heap.size<=g/\g<C);rcases GA g hg with h' | ⟨h',xX⟩|⟨h',xX⟩
       ·have:=h.lt h';omega
       ·omega
       ·omega
     uW:=fun t ht g hg hh=>by
      have ig:t∈c.tl++gJ:=by subst bE;exact ht
      rcases List.mem_append.1 ig with h' | h'
      ·exact h.Vj uV t h' g hg hh
      ·have a1:=hC.bB t h' g hg
       have a2:=hC.apart t ig g hg;have a3:=hC.af4 t ig g hg;rcases GA g hh with h' | ⟨h',xX⟩|⟨h',xX⟩
       ·have:=h.lt h';omega
       ·exact a3 h'
       ·exact a2.2 h'
     tK:=by
      have:=h.Vk uV;subst bE;exact this
     bR:=by subst bE;exact h.bR
     q8:=by subst bE;exact h.q8
     re:=by subst bE;exact h.re
     ia:=by subst bE;exact h.ia
     ie:=by subst bE;exact h.ie
     ix:=by subst bE;exact h.ix
     nl:=by have:=h.nl;subst bE;show c.ls.length<=_;omega
     np:=by have:=h.np;subst bE;simp;omega
     nt:=by have:=h.nt;have:=hC.zE;subst bE;simp;omega
     no:=by have:=h.no;subst bE;show c.os.length<=_;omega
     nr:=by have:=h.nr;subst bE;show c.rg.length<=_;omega
     m0:=by have:=h.m0;subst bE;show 0<=c.mark+_;omega
     m1:=by have:=h.m1;subst bE;show c.mark+_<=_;omega }⟩
theorem St.ave{wz w:World}{b k:Nat}{c:Ct}(h:St wz w b k c):rQ w c.v1 (c.ls.map (·.l))/\rQ w c.v2 (c.ls.map (·.l)):=by
 have cK:∀(v:Value) (f:Kl->Nat),w.ownsRow wz.heap.size 32 1 v c.ls.length (c.ls.map fun x=>dg (f x) x.l)->(∀x∈c.ls,aj w (f x) 3 (x.l.map (Value.int .i64)).toArray)->rQ w v (c.ls.map (·.l)):=fun v f hv hb=>by
  obtain⟨ao,cp,e⟩:=gY hv;subst e;refine⟨ao,cp,by rw[jh],fun i l hl=>?_⟩;rw[dY] at hl;obtain⟨x,hx,rfl⟩:∃x,c.ls[i]?=some x/\x.l=l:=by
   rcases e:c.ls[i]? with _|x
   ·rw[e] at hl;cases hl
   ·rw[e] at hl;injection hl with hl;exact⟨x,rfl,hl⟩
  obtain⟨g,ea,-,-,kS⟩:=nZ hv (by have:=M.bP hx;omega);subst ea;refine⟨_,some ⟨f x,0,none⟩,x.l.length,rfl,?_,?_⟩
  ·have ea:(⟨g,0,none⟩:Addr).add i=⟨g,i,none⟩:=by unfold Addr.add;split<;>simp_all
   rw[ea,kS i (by have:=M.bP hx;omega),dY,hx]
   rfl
  ·have hm:=bV hx
   exact(aZ.tM (base:=0) (bK _) rfl (by have:=(h.li x hm).2.2;unfold maxLen;omega) (hb x hm)).sl
 exact⟨cK c.v1 (·.g) h.k1 (fun x hx=>(h.li x hx).1),cK c.v2 (·.h) h.k2 (fun x hx=>(h.li x hx).2.1)⟩
theorem avf{wz w:World}{b k:Nat}{c:Ct}(h:St wz w b k c)(hk:k<=3000000) :
  Calls prog 23 #[.pointer (some ⟨b,0,none⟩)] w fun e w'=>e=.returned (.bool true)/\w.grownBy w' none:=by
 obtain⟨a1,c1,e1⟩:=gY h.k1;obtain⟨a2,c2,e2⟩:=gY h.k2;obtain⟨a7,c7,e7⟩:=gY h.T.1;obtain⟨a9,c9,e9⟩:=gY h.E.1;obtain⟨s1,s2⟩:=h.ave;have hL:=h.L;have hT:=h.T;have hE:=h.E;have nl:=h.nl;have nt:=h.nt;have no:=h.no;have li:=h.li;rw[e1] at s1 hL;rw[e2] at s2 hL;rw[e7] at hT hL;rw[e9] at hE hL;exact auG b wz.heap.size wz.heap.size c.vp c.va c.vn c.ve c.vr _ a1 a2 a7 a9 _ c1 c2 _ c7 _ c9 _ c.tl c.os w hL s1 s2 (fun l hl=>by
  obtain⟨x,hx,rfl⟩:=List.mem_map.1 hl;exact(li x hx).2.2) (by rw[jh];omega) hT (by omega) hE (by omega)
def kls:List Nat->List Nat->List (List Int)->List Kl
 | g::gs,h::hs,l::rs=>⟨g,h,l⟩::kls gs hs rs
 | _,_,_=>[]
theorem age{gs hs:List Nat}{rs:List (List Int)}(h1:gs.length=rs.length)(h2:hs.length=rs.length) :
  (kls gs hs rs).length=rs.length/\(kls gs hs rs).map (fun x=>dg x.g x.l)=List.zipWith dg gs rs/\(kls gs hs rs).map (fun x=>dg x.h x.l)=List.zipWith dg hs rs/\(kls gs hs rs).map (·.g)=gs/\(kls gs hs rs).map (·.h)=hs/\∀x∈kls gs hs rs,∃j:Nat,gs[j]?=some x.g/\hs[j]?=some x.h/\rs[j]?=some x.l:=by
 induction rs generalizing gs hs with
 | nil=>
  have e1:gs=[]:=List.length_eq_zero_iff.1 h1;have e2:hs=[]:=List.length_eq_zero_iff.1 h2;subst e1 e2;exact⟨rfl,rfl,rfl,rfl,rfl,fun x hx=>by cases hx⟩
 | cons l rs ih=>
  rcases gs with _|⟨g,gs⟩
  ·cases h1
  ·rcases hs with _|⟨h,hs⟩
   ·cases h2
   ·obtain⟨a1,a2,a3,a4,a5,a6⟩:=ih (gs:=gs) (hs:=hs) (by simpa using h1) (by simpa using h2)
    refine⟨by simp[kls,a1],by simp[kls,a2],by simp[kls,a3],by simp[kls,a4],by simp[kls,a5],fun x hx=>?_⟩;rcases List.mem_cons.1 hx with rfl|hx
    ·exact⟨0,rfl,rfl,rfl⟩
    ·obtain⟨j,b1,b2,b3⟩:=a6 x hx
     exact⟨j+1,by simpa using b1,by simpa using b2,by simpa using b3⟩
theorem auI{G H gs hs:List Nat}{n:Nat}(h0:(G++H).Nodup)(h1:(gs++hs).Nodup)(hl:∀x∈G++H,x<n)(hr:∀x∈gs++hs,n<=x):((G++gs)++(H++hs)).Nodup:=by
 have hp:((G++gs)++(H++hs)).Perm ((G++H)++(gs++hs)):=by
  rw[j4,j4];exact List.Perm.append_left _ (List.perm_append_comm_assoc gs H hs)
 refine hp.nodup_iff.2 (List.nodup_append.2 ⟨h0,h1,fun x hx y hy e=>?_⟩);have:=hl x hx;have:=hr y hy;omega
theorem Wn.mono{ls nk:List Kl}{u:Value}(h:Wn ls u):Wn (ls++nk) u:=h.imp id (fun⟨x,hx,r⟩=>⟨x,List.mem_append_left _ hx,r⟩)
theorem St.Pr{wz w w':World}{b k:Nat}{c:Ct}(h:St wz w b k c){u1 u2 va vn ve vr vo:Value}{nk:List Kl}{rg:List Value}{os:List (Nat×Nat)}
  (hF:Fr (fun g=>g=b\/c.v1.ownBlock=some g\/c.v2.ownBlock=some g\/c.vr.ownBlock=some g\/c.vo.ownBlock=some g) w w')
  (hL:LW w' b c.vp u1 u2 va vn ve vr c.vt (.int .i64 c.mark) vo)
  (k1:w'.ownsRow wz.heap.size 32 1 u1 (c.ls.length+nk.length) ((c.ls.map fun x=>dg x.g x.l)++nk.map fun x=>dg x.g x.l))
  (k2:w'.ownsRow wz.heap.size 32 1 u2 (c.ls.length+nk.length) ((c.ls.map fun x=>dg x.h x.l)++nk.map fun x=>dg x.h x.l))
  (kr:w'.ownsRow wz.heap.size 32 1 vr rg.length rg) (hE:vQ w' wz.heap.size vo os)
  (li:∀x∈nk,aj w' x.g 3 (x.l.map (Value.int .i64)).toArray/\aj w' x.h 3 (x.l.map (Value.int .i64)).toArray/\x.l.length<=1000000000)
  (nd:(nk.map (·.g)++nk.map (·.h)).Nodup) (ab:∀g∈nk.map (·.g)++nk.map (·.h),w.heap.size<=g) (qy:∀u∈rg,Wn (c.ls++nk) u)
  (o1:∀g,u1.ownBlock=some g->c.v1.ownBlock=some g\/w.heap.size<=g) (o2:∀g,u2.ownBlock=some g->c.v2.ownBlock=some g\/w.heap.size<=g)
  (Le:∀g,vr.ownBlock=some g->c.vr.ownBlock=some g\/w.heap.size<=g) (oo:∀g,vo.ownBlock=some g->c.vo.ownBlock=some g\/w.heap.size<=g)
  (bR:∀g,u1.ownBlock=some g->u2.ownBlock≠some g) (q8:∀g,u1.ownBlock=some g->vr.ownBlock≠some g) (re:∀g,u2.ownBlock=some g->vr.ownBlock≠some g)
  (ap:∀p∈os,p∈c.os\/(w.heap.size<=p.1/\u1.ownBlock≠some p.1/\u2.ownBlock≠some p.1/\vr.ownBlock≠some p.1))
  (ia:wP va) (ie:wP vn) (ix:wP ve) (n1:nk.length<=300) (nr:rg.length<=300*(k+1)) (no:os.length<=k+1) :
  St wz w' b (k+1) { c with v1:=u1,v2:=u2,va:=va,vn:=vn,ve:=ve,vr:=vr,vo:=vo,ls:=c.ls++nk,rg:=rg,os:=os }:=by
 obtain⟨c',bE⟩:∃c',c'=({ c with v1:=u1,v2:=u2,va:=va,vn:=vn,ve:=ve,vr:=vr,vo:=vo,ls:=c.ls++nk,rg:=rg,os:=os }:Ct):=⟨_,rfl⟩;have hS:∀g,(g=b\/c.v1.ownBlock=some g\/c.v2.ownBlock=some g\/c.vr.ownBlock=some g\/c.vo.ownBlock=some g)->c.de b g:=fun g hg=>by
  rcases hg with hg|hg|hg|hg|hg
  ·exact .inl hg
  ·exact .inr (.inr (.inl hg))
  ·exact .inr (.inr (.inr (.inl hg)))
  ·exact .inr (.inr (.inr (.inr (.inl hg))))
  ·exact .inr (.inr (.inr (.inr (.inr (.inr (.inl hg))))))
 have oG:∀{T:TypeId} {v:Value} {n t base:Nat} {xs:List Value},w.ownsRow base T t v n xs->T≠58->T≠32->T≠38->∀g,v.ownBlock=some g->¬(g=b\/c.v1.ownBlock=some g\/c.v2.ownBlock=some g\/c.vr.ownBlock=some g\/c.vo.ownBlock=some g):=fun ho n1 n2 n3 g hg hx=>by
  rcases hx with hx|hx|hx|hx|hx
  ·subst hx;exact lD ho h.L n1 hg
  ·exact qw ho h.k1 n2 g hg hx
  ·exact qw ho h.k2 n2 g hg hx
  ·exact qw ho h.kr n2 g hg hx
  ·exact qw ho h.E.1 n3 g hg hx
 have yU:∀g cs,(g=b\/c.v1.ownBlock=some g\/c.v2.ownBlock=some g\/c.vr.ownBlock=some g\/c.vo.ownBlock=some g)->¬aj w g 3 cs:=fun g cs hx hB=>by
  rcases hx with hx|hx|hx|hx|hx
  ·subst hx;exact aN (uR h.L hB) (by decide)
  ·exact lD h.k1 hB (by decide) hx
  ·exact lD h.k2 hB (by decide) hx
  ·exact lD h.kr hB (by decide) hx
  ·exact lD h.E.1 hB (by decide) hx
 have N8:∀g,g∈c'.cb->g∈c.cb\/g∈nk.map (·.g)++nk.map (·.h):=fun g hg=>by
  subst bE;unfold Ct.cb at hg ⊢;simp only[lH,Ac] at hg ⊢;rcases hg with(hg|hg)|(hg|hg)
  ·exact .inl (.inl hg)
  ·exact .inr (.inl hg)
  ·exact .inl (.inr hg)
  ·exact .inr (.inr hg)
 have uV:Gz w b c c':=fun g hg=>by
  rcases hg with hg|hg|hg|hg|hg|hg|hg|hg
  ·exact .inl (.inl hg)
  ·subst bE;exact .inl (.inr (.inl hg))
  ·subst bE;exact(o1 g hg).imp (fun e=>.inr (.inr (.inl e))) id
  ·subst bE;exact(o2 g hg).imp (fun e=>.inr (.inr (.inr (.inl e)))) id
  ·subst bE;exact(Le g hg).imp (fun e=>.inr (.inr (.inr (.inr (.inl e))))) id
  ·subst bE;exact .inl (.inr (.inr (.inr (.inr (.inr (.inl hg))))))
  ·subst bE;exact(oo g hg).imp (fun e=>.inr (.inr (.inr (.inr (.inr (.inr (.inl e))))))) id
  ·exact(N8 g hg).imp (fun e=>ER e) (fun e=>ab g e)
 have Lg:∀x∈c'.ls,aj w' x.g 3 (x.l.map (Value.int .i64)).toArray/\aj w' x.h 3 (x.l.map (Value.int .i64)).toArray/\x.l.length<=1000000000:=fun x hx=>by
  have IL:x∈c.ls++nk:=by subst bE;exact hx
  rcases List.mem_append.1 IL with hx|hx
  ·exact h.Pq hF yU x hx
  ·exact li x hx
 have hcB:∀g∈c'.cb,∃cs,aj w' g 3 cs:=fun g hg=>by
  rcases List.mem_append.1 hg with hg|hg
  ·obtain⟨x,hx,rfl⟩:=List.mem_map.1 hg;exact⟨_,(Lg x hx).1⟩
  ·obtain⟨x,hx,rfl⟩:=List.mem_map.1 hg;exact⟨_,(Lg x hx).2.1⟩
 rw[<-bE];exact
  {gz:=h.gr hF hS
   zb:=h.zb
   L:=by subst bE;exact hL
   kp:=by subst bE;exact hF.jO h.kp (oG h.kp (by decide) (by decide) (by decide))
   k1:=by subst bE;rw[nC,lH];exact k1
   k2:=by subst bE;rw[nC,lH];exact k2
   kr:=by subst bE;exact kr
   T:=by subst bE;exact h.ts hF hS (oG h.T.1 (by decide) (by decide) (by decide))
   E:=by subst bE;exact hE
   pl:=by subst bE;exact h.ED hF hS
   li:=Lg
   nd:=by
    have:=auI h.nd nd (fun x hx=>(h.lt (ER hx)).2) ab;subst bE;unfold Ct.cb;rw[lH,lH];exact this
   zl:=fun g hg=>by
    rcases N8 g hg with e|e
    ·exact h.zl g e
    ·exact jK h.gz.size (ab g e)
   qy:=by subst bE;exact qy
   yd:=by have:=h.Vi uV;subst bE;exact this
   uW:=by have:=h.Vj uV;subst bE;exact this
   tK:=fun p hp hh=>by
    have iH:p∈os:=by subst bE;exact hp
    rcases ap p iH with e|⟨e0,e1,e2,e3⟩
    ·exact h.Vk uV p e hh
    ·have hB:=(hE.2 p iH).2
     have IN:¬c.de b p.1:=fun e=>by have:=(h.lt e).2;omega
     rcases hh with hg|hg|hg|hg|hg|hg|hg|hg
     ·exact IN (.inl hg)
     ·subst bE;exact IN (.inr (.inl hg))
     ·subst bE;exact e1 hg
     ·subst bE;exact e2 hg
     ·subst bE;exact e3 hg
     ·subst bE;exact IN (.inr (.inr (.inr (.inr (.inr (.inl hg))))))
     ·subst bE;exact lD hE.1 hB (by decide) hg
     ·obtain⟨cs,iA⟩:=hcB p.1 hg
      exact aN (uR hB iA) (by decide)
   bR:=by subst bE;exact bR
   q8:=by subst bE;exact q8
   re:=by subst bE;exact re
   ia:=by subst bE;exact ia
   ie:=by subst bE;exact ie
   ix:=by subst bE;exact ix
   nl:=by have:=h.nl;subst bE;rw[nC];omega
   np:=by have:=h.np;subst bE;show c.ps.length<=_;omega
   nt:=by have:=h.nt;subst bE;show c.tl.length<=_;omega
   no:=by subst bE;exact no
   nr:=by subst bE;exact nr
   m0:=by subst bE;exact h.m0
   m1:=by have:=h.m1;subst bE;show c.mark<=_;omega }
theorem St.Vl{wz w:World}{b k:Nat}{c:Ct}(h:St wz w b k c):Kp w w b wz.heap.size c.vp c.v1 c.v2 c.va c.vn c.ve c.vr c.vt (.int .i64 c.mark) c.vo c.v1 c.v2 c.ls.length (c.ls.map fun x=>dg x.g x.l) (c.ls.map fun x=>dg x.h x.l):=
 ⟨h.L,h.k1,h.k2,h.b1,h.b2,h.bR,fun _ e=>.inl e,fun _ e=>.inl e,Fr.refl _ _⟩
theorem avg(b base q gb B C:Nat)(md:M.Md)(vp v1 v2 va vn ve vr vt vm vo:Value)(n1:Nat)(xs ys:List Value)(s:ByteArray)(w:World)
  (hK:Kp w w b base vp v1 v2 va vn ve vr vt vm vo v1 v2 n1 xs ys) (yK:base<=w.heap.size) (iq:n1<=900000000) (hs:s.size<=1000000000)
  (hG:xY w B C gb (R.dp md)) (hC:C<=w.heap.size) (hS:∀k,(k=b\/v1.ownBlock=some k\/v2.ownBlock=some k)->¬(B<=k/\k<C)) (h1:O.iN md) (tu:0<md.au.length) :
  Calls prog 46 #[.pointer (some ⟨b,0,none⟩),.agg #[.pointer (some ⟨q,0,none⟩),.pointer (some ⟨gb,0,none⟩)],.string s] w fun e w'=>e=.returned (.tuple #[])/\∃ye u1 u2 m rs gs hs,m<=24/\uU w w' b base vp v1 v2 va vn ve ye vt vm vo u1 u2 n1 m xs ys rs gs hs:=by
 obtain⟨i0,nJ,cQ,cR,cZ⟩:=info_parts Tryz.Fv;obtain⟨j0,Uo,vL,p9,vM⟩:=info_parts Tryz.oH;have Cy:=h1.nt;have fC:(R.jQ md.au).length<=24:=by rw[Un];unfold H.cy;exact jK (List.length_filter_le _ _) (by simp;omega)
 have HD:Hid (∀(n:Nat) t,md.au[n]?=some t->∃X N:Nat,t.h*t.w=X/\X<=65025/\(X:Int)*t.c=N/\N<=512):=fun n t ht=>by
  have hd:=h1.kN t (bV ht);have hh:=hd.h0;have hw:=hd.w0;have hc:=hd.c0;have m3:=wT (h:=t.h) (w:=t.w) (c:=t.c) (by omega) hd.h1 (by omega) hd.w1 (by omega) hd.c1;obtain⟨X,hX⟩:=fR m3.1;obtain⟨N,hN⟩:=fR m3.2.2.1;have ayn:t.h*t.w*t.c<=512:=hd.me;exact⟨X,N,hX,by omega,by rw[<-hX];exact hN,by omega⟩
 have K0:=hK.ae0 (.slice none 0 0);have f6:=hK.L.free 6;have c6:w.cell? ⟨b,6,none⟩=some vr:=hK.L.cell 6;have dh:=hK.L.lt;have g0:=aQ (w.setCell ⟨b,6,none⟩ (.slice none 0 0)) (.cells #[.pointer (some ⟨q,0,none⟩),.pointer (some ⟨gb,0,none⟩)] 99) none;have kd:=aj.bB (w.setCell ⟨b,6,none⟩ (.slice none 0 0)) 99 #[.pointer (some ⟨q,0,none⟩),.pointer (some ⟨gb,0,none⟩)];rw[yi] at kd;have K1:=K0.grow g0;have p1:=kd.cell 1;simp only[show(#[Value.pointer (some ⟨q,0,none⟩),Value.pointer (some ⟨gb,0,none⟩)]:Array Value)[1]?=some (.pointer (some ⟨gb,0,none⟩)) from rfl] at p1;have dN:=ae (hG.gZ (K1.F.gZ hC hS));have nj:=ae kd;have HK1:=ae K1;have Sa:((w.setCell ⟨b,6,none⟩ (.slice none 0 0)).alloc (.cells #[.pointer (some ⟨q,0,none⟩),.pointer (some ⟨gb,0,none⟩)] 99)).heap.size=w.heap.size+1:=by simp
 have O8:Hid (∀g,(v1.ownBlock=some g\/v2.ownBlock=some g)->g<w.heap.size):=fun g hg=>hg.elim (fun e=>(jd hK.k1 g e).2) (fun e=>(jd hK.k2 g e).2);have HS:=ae hS;clear hK hG hS K0 K1 g0 kd h1;go_enter func46,ntmps46;go_wp2_with fail;generalize (w.setCell ⟨b,6,none⟩ (.slice none 0 0)).alloc (.cells #[.pointer (some ⟨q,0,none⟩),.pointer (some ⟨gb,0,none⟩)] 99)=w1 at *;refine(TI gb (R.dp md) w1 dN.out.Ks (by show md.au.length<=255;omega)).mono ?_;rintro e w2⟨⟨ax,cx,rfl,hX⟩,g2⟩;have HX:=ae (show aZ w2 w1.heap.size (.slice ax (R.jQ md.au).length cx) (R.jQ md.au) from hX);have Up:(R.dp md).ts=md.au:=rfl;rw[Up];have G2:=ae g2;clear hX g2 p1 c6 f6;go_wp2_with fail;refine(Zb s w2 hs).mono ?_;rintro e w3⟨rfl,Vu,g3⟩;have Pw:=aC G2.out g3;have qE:=G2.out.size;have Jn:=g3.size;have HX3:=ae (HX.out.Z g3);have HBy:=ae Vu;have ayo:=Vu.lt;have HP:=ae (nj.out.kept Pw (by simp));have xV:=ae (HK1.out.grow Pw);have fW:=ae (dN.out.gZ (zt Pw (by omega)));have HF0:=ae (uU.nil xV.out.Sv);have Bj:=O8.out;have NQ:Hid (∀g,w.heap.size<=g->¬(g=b\/v1.ownBlock=some g\/v2.ownBlock=some g)):=fun g hg hx=>by
  rcases hx with hx|hx|hx
  ·omega
  ·have:=Bj g (.inl hx);omega
  ·have:=Bj g (.inr hx);omega
 have xM:=ae xV.out.F;clear HX nj HK1 dN Vu g3 Pw G2 Bj O8;go_wp2;go_loopw[7,9] (fun kv i wr=>∃(k kk:Nat) (ye u1 u2:Value) (rs:List (List Int)) (gs jG:List Nat),Hid (k<=(R.jQ md.au).length)/\Hid (kk<=512*k)/\kv=.int .i64 kk/\i=.int .i64 k/\Hid (uU w3 wr b base vp v1 v2 va vn ve ye vt vm vo u1 u2 n1 k xs ys rs gs jG)) (fun _ i _=>(R.jQ md.au).length-(intOf i).toNat)
 case atStart=>exact⟨0,0,.slice none 0 0,v1,v2,[],[],[],bK _,bK _,rfl,rfl,HF0.out⟩
 case round=>
  clear HF0 xV;obtain⟨k,kk,ye,u1,u2,rs,gs,jG,Hk,Hkk,rfl,rfl,HF⟩:=hrel;have hk:=Hk.out;have hkk:=Hkk.out;by_cases aK:k<(R.jQ md.au).length
  ·have hF:=HF.out.K.F
   have Xr:=hF.size;have nS:=NQ.out;obtain⟨x,hx⟩:∃x,(R.jQ md.au)[k]?=some x:=⟨_,aT aK⟩;obtain⟨n,t,rfl,fO,ht,k0,xw⟩:=R.Kr _ _ (bj _) k x hx;have hX:aZ wr w1.heap.size (.slice ax (R.jQ md.au).length cx) (R.jQ md.au):=hF.jO HX3.out (fun g hg=>nS g (by have:=(jd HX3.out g hg).1;omega));obtain⟨aX,rfl,dX⟩:=hX.sl.get k n hx;obtain⟨ga,c1,Bg⟩:=(fW.out.gZ (hF.gZ (by omega) HS.out)).Ks.TN tu;have hT:=Bg.t n t ht;have q0:wr.cell? ⟨gb,0,none⟩=some (.slice (some ⟨ga,0,none⟩) md.au.length c1):=Bg.q;have p1:wr.cell? ⟨w.heap.size,1,none⟩=some (.pointer (some ⟨gb,0,none⟩)):=hF.cell HP.out (nS _ (bj _)) rfl;have agr:=ae (hF.gF HBy.out (nS _ (by omega)));obtain⟨X,N,hXe,hX2,hN,hN2⟩:=HD.out n t ht;have t1:=hT.h;have t2:=hT.v;have t3:=hT.c;have wX:IntKind.i64.wrap (t.h*t.w)=(X:Int):=by rw[hXe,cS];omega
   have wN:IntKind.i64.wrap ((X:Int)*t.c)=(N:Int):=by rw[hN,cS];omega
   have ayr:=M.bP ht;clear hF nS hX Bg hT hx xw fO ht k0 hXe hN;go_wp2_with fail;go_quiet (fail);have gq:=bF wr nq none;have KR:=ae (HF.out.grow gq);have agt:=ae (agr.out.kept gq (by simp));have s1:=aG gq t1;have s2:=aG gq t2;have s3:=aG gq t3;have OT:=gq.size;clear HF agr t1 t2 t3 gq dX q0 p1;generalize wr.drewN nq=wa at *;go_wp2_with fail;go_still_tail 14,(by kernel_rfl);show wpList _ _ _ _ _ (World.drew _);have gq:=gH wa none;have Vv:=ae (KR.out.grow gq);have avj:=ae (agt.out.kept gq (by simp));have hsb:=gq.size;clear KR agt s1 s2 s3 gq wX wN;generalize wa.drew=wb at *;go_wp2_with (at_make;refine pU _ rfl _ _ 32 rfl wb.heap.size 3 j0 (.int .i64 0) 1 underlying32 Uo vL p9 _ _ _ _ N rfl rfl rfl rfl ?c1 ?c2 ?c3 ?_)
   case c1=>rw[vM];omega
   case c2=>unfold maxLen;omega
   case c3=>exact bj _
   intro w5 cB cJ;have ow:=ae (wR cB);have iC:=ae cJ;clear cB cJ;go_wp2;go_loopw[7,12] (fun kv j w'=>∃(jj tL:Nat) (l:List Int),Hid (jj<=N)/\Hid (tL<=kk+jj)/\kv=.int .i64 tL/\j=.int .i64 jj/\Hid (l.length=N)/\Hid (aj w' wb.heap.size 3 (l.map (Value.int .i64)).toArray)/\Hid (wb.grownBy w' none)) (fun _ j _=>N-(intOf j).toNat)
   case atStart=>exact⟨0,kk,List.replicate N 0,bK _,bj _,rfl,rfl,(by unfold Hid;simp),(by unfold Hid;simpa using ow.out),iC.out⟩
   case round=>
    clear ow iC;obtain⟨jj,tL,l,Hjj,avl,rfl,rfl,yX,mR,GB⟩:=hrel;have hjj:=Hjj.out;have ayt:=avl.out;by_cases zL:jj<N/\0<s.size
    ·obtain⟨hj,UT⟩:=zL
     have hm:tL%s.size<s.size:=abc _ UT;have tm:Int.tmod (tL:Int) (s.size:Int)=((tL%s.size:Nat):Int):=by rw[Int.tmod_eq_emod_of_nonneg (by omega)];exact(Int.natCast_emod tL s.size).symm
     obtain⟨x,hx⟩:∃x,(yG s)[tL%s.size]?=some x:=⟨_,Nx s _ hm⟩;have dB:wr.cell? ⟨w2.heap.size,tL%s.size,none⟩=some (.int .i64 x):=by rw[(avj.out.kept GB.out (by simp)).cell _,nH,dY,hx];rfl
     obtain⟨m,Hm⟩:∃m,Hid (tL%s.size=m):=⟨_,rfl⟩;rw[Hm.out] at hm tm dB;clear hx;obtain⟨y,hy⟩:∃y,l[jj]?=some y:=⟨_,aT (by rw[yX.out];exact hj)⟩;have d0:wr.cell? ⟨wb.heap.size,jj,none⟩=some (.int .i64 y):=by rw[mR.out.cell jj,nH,dY,hy];rfl
     have f0:=mR.out.free jj;have iV:Hid (aj (wr.setCell ⟨wb.heap.size,jj,none⟩ (.int .i64 x)) wb.heap.size 3 ((l.set jj x).map (Value.int .i64)).toArray):=by
      have e:=mR.out.set jj (.int .i64 x);rw[KN,<-List.map_set] at e;exact e
     have dZ:=ae (dF GB.out (bD wr wb.heap.size jj (.int .i64 x)) (bj _));have dh:=mR.out.lt;have eF:¬((s.size:Int)=0):=by omega
     clear hy mR GB;go_wp2;go_roundw
     case rel=>exact⟨jj+1,tL+1,l.set jj x,(show jj+1<=N by omega),(show tL+1<=kk+(jj+1) by omega),by go_num,by go_num,(by unfold Hid;rw[kG];exact yX.out),iV.out,dZ.out⟩
     case measure=>simp[intOf];omega
    ·have zn:(jj=N/\True)\/(jj<N/\¬(0<(s.size:Int))):=by
      by_cases e:jj=N
      ·exact .inl ⟨e,trivial⟩
      ·exact .inr ⟨by omega,fun h=>zL ⟨by omega,by omega⟩⟩
     have hNe:=yX.out;subst hNe;have GC:=ae (Vv.out.grow GB.out);have dh:=mR.out.lt;have gN:=GB.out.size;have Bh:Sl wr (.slice (some ⟨wb.heap.size,0,none⟩) l.length l.length) l:=(aZ.tM (base:=0) (bK _) rfl (by unfold maxLen;omega) mR.out).sl;have HC:=ae (GC.out.K.Bi (by omega) (by omega) Bh (by omega));have avn:Hid (∀g∈gs++jG,g<wb.heap.size):=fun g hg=>(Vv.out.ab g hg).2;clear Bh Vv;clear zL;rcases zn with⟨e1,e2⟩|⟨e1,e2⟩
     all_goals
      go_wp2_with fail;refine HC.out.mono ?_;rintro e wc⟨rfl,g1,UE,g2,UF,wL,yb,pR,o1,o2⟩;have HRc:=ae (pR.jO GC.out.R (fun g hg hx=>by
       have:=GC.out.rb g hg;rcases hx with hx|hx|hx
       ·exact this.1 hx
       ·exact this.2.1 hx
       ·exact this.2.2 hx))
      have c6:wc.cell? ⟨b,6,none⟩=some ye:=wL.L.cell 6;have Ih:=pR.size;have ET:=ae (And.intro wL (And.intro yb (And.intro pR (And.intro o1 o2))));clear wL yb pR o1 o2 HC;go_wp2_with (at_builtin;refine wpList_append_lies _ rfl _ _ 38 rfl w3.heap.size 32 i0 (.slice none 0 0) 1 24 underlying38 nJ cQ cR cZ rfl (by decide) _ _ _ rfl (lP HRc.out _) ⟨wc.heap.size,0,none⟩ 1 1 [.slice (some ⟨wb.heap.size,0,none⟩) l.length l.length] rfl rfl ?c1 ?c2 ?c3 ?c4 ?c5 ?c6 (wc.heap.size+1) ?c7 ?_)
      case c1=>exact kb wc 32 #[.slice (some ⟨wb.heap.size,0,none⟩) l.length l.length]
      case c2=>intro u hu;simp at hu;subst hu;rfl
      case c3=>decide
      case c4=>unfold maxLen;omega
      case c5=>omega
      case c6=>simp;omega
      case c7=>simp
      intro gr cr wd cB cV jA avo;have bC:wc.grownBy wd ye.ownBlock:=aC (aQ _ _ _) cV;have HE:=ae (uU.pk GC.out mR.out ET.out.1 ET.out.2.1 ET.out.2.2.1 ET.out.2.2.2.1 ET.out.2.2.2.2 cB bC jA (by omega) avn.out (by omega));have Px:=ET.out.1.L.kept bC (fun e=>(GC.out.rb b e.symm).1 rfl);have d6:wd.cell? ⟨b,6,none⟩=some ye:=Px.cell 6;have f6:=Px.free 6;have mV:=Px.lt;clear cB cV jA avo bC Px ET HRc c6 mR GB GC;go_wp2;go_roundw
      case rel=>exact⟨k+1,tL,_,_,_,rs++[l],gs++[wb.heap.size],jG++[wr.heap.size],(show k+1<=_ by omega),(show tL<=512*(k+1) by omega),rfl,by go_num,HE⟩
      case measure=>simp[intOf];omega
  ·obtain rfl:k=(R.jQ md.au).length:=by omega
   have HE:Hid (uU w wr b base vp v1 v2 va vn ve ye vt vm vo u1 u2 n1 (R.jQ md.au).length xs ys rs gs jG):=by
    have h:=HF.out;refine⟨Kp.iI xM.out h.K,h.l0,h.l1,h.l2,h.nd,fun g hg=>⟨?_,(h.ab g hg).2⟩,h.f1,h.f2,m9 h.R (by omega),h.sh,h.rb⟩;have:=(h.ab g hg).1;omega
   clear HF;go_wp2;go_end0;exact⟨rfl,ye,u1,u2,_,rs,gs,jG,fC,HE.out⟩
end Go.Proofs.YtcnhfffgbamonabGreat
