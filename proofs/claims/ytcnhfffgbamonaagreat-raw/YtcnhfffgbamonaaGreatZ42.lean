import Derived.Test.YtcnhfffgbamonaaGreatZ41
import Derived.Test.YtcnhfffgbamonaaGreatZ37
import Derived.Test.YtcnhfffgbamonaaGreatZ36
set_option maxRecDepth 100000
set_option maxHeartbeats 6400000
namespace Go.Proofs.YtcnhfffgbamonaaGreat
open Go.Proofs.Tryz
open RowKit
namespace R
theorem avz{g:bX}(h:uQ g=false):sB g=3:=by unfold sB;rw[ay h]
theorem avA{g:bX}(h:uQ g=true)(h2:pT g=false):sB g=4:=by unfold sB;rw[ak (by simp[h]),ay h2]
theorem avB{g:bX}(h:uQ g=true)(h2:pT g=true)(h3:g.ag.all (gI g)=false):sB g=5:=by unfold sB;rw[ak (by simp[h]),ak (by simp[h2]),ay h3]
theorem avC{g:bX}(h:uQ g=true)(h2:pT g=true)(h3:g.ag.all (gI g)=true)(h4:yh g=false):sB g=6:=by unfold sB;rw[ak (by simp[h]),ak (by simp[h2]),ak (by simp[h3]),ay h4]
theorem avD{g:bX}(h:uQ g=true)(h2:pT g=true)(h3:g.ag.all (gI g)=true)(h4:yh g=true):sB g=0:=by unfold sB;rw[ak (by simp[h]),ak (by simp[h2]),ak (by simp[h3]),ak (by simp[h4])]
end R
theorem agP(b:Nat)(g:R.bX)(w:World)(h:lF w b g)(hw:EX g):
 Calls prog 34 #[.pointer (some ⟨b,0,none⟩)] w fun e w'=>e=.returned (.int .i64 (R.sB g))/\w.grownBy w' none:=by
 have kl:=hw.no;have HW:=ae hw;have zM:=ae h;clear h hw;go_enter func34,ntmps34;go_wp2_with fail;refine(arR b g w zM.out HW.out).mono ?_;rintro e w1⟨rfl,g1⟩
 cases hs:R.uQ g with
 |false=>
  have HN:=ae (R.avz hs);go_wp2;go_ret;exact⟨cH HN.out.symm,g1⟩
 |true=>
  have HS:=ae hs;have G1:=ae g1;have agQ:=ae (zM.out.Z g1);clear hs g1;go_wp2_with fail;refine(asv b g w1 agQ.out HW.out).mono ?_;rintro e w2⟨rfl,g2⟩;have G2:=ae (aC G1.out g2);have azq:=ae (zM.out.Z G2.out);clear g2 G1 agQ
  cases ho:R.pT g with
  |false=>
   have HN:=ae (R.avA HS.out ho);go_wp2;go_ret;exact⟨cH HN.out.symm,G2.out⟩
  |true=>
   have HOr:=ae ho;clear ho;go_wp2;go_loopw[3,4] (fun a i wr=>∃j:Nat,Hid (j<=g.ag.length)/\i=.int .i64 j/\a=.bool true/\Hid (∀(m:Nat) o,m<j->g.ag[m]?=some o->R.gI g o=true)/\w.grownBy wr none) (fun _ i _=>g.ag.length-(intOf i).toNat)
   case atStart=>exact⟨0,bK _,rfl,rfl,(fun m t hm=>aN hm (wT m)),G2.out⟩
   case round=>
    obtain⟨j,Hj,rfl,rfl,HA,bO⟩:=hrel;have cV:=ae bO;have VH:=ae (zM.out.Z bO);obtain⟨a1,c1,a2,c2,a3,c3,hB,hT,hO,hU⟩:=VH.out;have q1:wr.cell? ⟨b,1,none⟩=some (.slice a2 g.ag.length c2):=hB.cell 1;by_cases aJ:j<g.ag.length
    ·obtain⟨o,ho⟩:∃o,g.ag[j]?=some o:=⟨_,aS aJ⟩
     obtain⟨go,eo,-,Dt⟩:=hO.bN j o ho;subst eo;have CN:0<g.ts.length:=by
      have h1:=(R.VA HOr.out ho).1;have h2:=(HW.out.os o (bU ho)).Pd;omega
     obtain⟨ga,c9,By⟩:=VH.out.Uq CN;have HC:=ae (avg b ga c9 go j g o wr By Dt HW.out HOr.out ho);have Ho:=ae ho;have dW:=ae aJ;clear hB hT hO hU Dt By ho bO CN;go_wp2_with fail;refine HC.out.mono ?_;rintro e w3⟨rfl,g3⟩;have G3:=ae (aC cV.out g3);clear g3 HC q1
     cases hf:R.gI g o with
     |false=>
      have HN:=ae (R.avB HS.out HOr.out (R.PS Ho.out hf));go_wp2;go_ret;exact⟨cH HN.out.symm,G3.out⟩
     |true=>
      have mW:Hid (∀(m:Nat) o,m<j+1->g.ag[m]?=some o->R.gI g o=true):=fun m o' hm iM=>by
       rcases cE m j with h' |h'
       ·exact HA.out m o' h' iM
       ·obtain rfl:m=j:=by omega
        rw[Ho.out] at iM;injection iM with iM;subst iM;exact hf
      clear hf;go_wp2;go_roundw
      case rel=>exact⟨j+1,(by have:=dW.out;unfold Hid;omega),by go_num,rfl,mW.out,G3.out⟩
      case measure=>have:=dW.out;simp[intOf];omega
    ·obtain rfl:j=g.ag.length:=by have:=Hj.out;omega
     have HF:=ae (R.PT (p:=R.gI g) (l:=g.ag) (fun m o ho=>HA.out m o (by
      rcases cE m g.ag.length with h' |h'
      ·exact h'
      ·rw[db h'] at ho;exact aN ho (by simp)) ho))
     clear aJ hB hT hO hU bO;go_wp2_with fail;refine(avn b g wr VH.out HW.out HOr.out).mono ?_;rintro e w4⟨rfl,g4⟩;have G4:=ae (aC cV.out g4);clear g4 q1
     cases hq:R.yh g with
     |false=>
      have HN:=ae (R.avC HS.out HOr.out HF.out hq);go_wp2;go_ret;exact⟨cH HN.out.symm,G4.out⟩
     |true=>
      have HN:=ae (R.avD HS.out HOr.out HF.out hq);go_wp2;go_ret;exact⟨cH HN.out.symm,G4.out⟩
theorem Tryz.avE:(prog.info? 39).map (fun i=>(i.zero,i.size,i.bytes))=some (some (.agg #[.pointer none,.pointer none]),2,16):=by kernel_rfl
theorem xO.lr{w:World}{B p:Nat}{md:M.Md}(h:xO w B p md):O.iP md:=by
 obtain⟨m,an,cn,ab,cb,b1,b2,h1,h2,h3,h4,h5,h6⟩:=h;exact h6
structure Cmp(w w':World)(b base n:Nat)(vp vl vw va vn ve vr vt vo:Value)(ps:List Value)(mark:Int)(tl:List Td)(md:M.Md)(q gb gp cp gt ct C:Nat)(gM:List Td):Prop where
 L:LW w' b (.slice (some ⟨gp,0,none⟩) (n+1) cp) vl vw va vn ve vr (.slice (some ⟨gt,0,none⟩) (tl.length+3) ct) (.int .i64 (mark+3*(4+(lT md).length))) vo
 agS:w'.ownsRow base 39 2 (.slice (some ⟨gp,0,none⟩) (n+1) cp) (n+1) (ps++[.pointer (some ⟨q,0,none⟩),.pointer (some ⟨gb,0,none⟩)])
 zW:gM.length=3
 T:Ts w' base (.slice (some ⟨gt,0,none⟩) (tl.length+3) ct) (tl++gM)
 bA:∀t∈gM,∀g∈t.iG,w.heap.size<=g/\C<=g
 apart:∀t∈tl++gM,∀g∈t.iG,g≠b/\g≠gt
 agT:vt.ownBlock=some gt\/C<=gt
 agU:vp.ownBlock=some gp\/C<=gp
 ne:gp≠b/\gp≠gt
 agV:∀t∈tl++gM,∀g∈t.iG,g≠gp
 P:zP w' w.heap.size C q md
 G:yn w' w.heap.size C gb (R.dp md)
 hC:C<=w'.heap.size
 Bx:w.heap.size<=C
 lr:O.iP md
 F:Fr (fun k=>k=b\/vp.ownBlock=some k\/vt.ownBlock=some k) w w'
theorem avF(b base n:Nat)(vp vl vw va vn ve vr vt vo:Value)(ps:List Value)(mark:Int)(tl:List Td)(s:ByteArray)(w:World)(hs:s.size<=9223372036854775807)
  (hL:LW w b vp vl vw va vn ve vr vt (.int .i64 mark) vo) (hp:w.ownsRow base 39 2 vp n ps) (hT:Ts w base vt tl) (Dw:∀t∈tl,∀g∈t.iG,g≠b/\vt.ownBlock≠some g/\vp.ownBlock≠some g)
  (hv:∀g,vt.ownBlock=some g->g≠b/\vp.ownBlock≠some g) (F8:vp.ownBlock≠some b) (zg:base<=w.heap.size) (m0:0<=mark) (m1:mark<=900000000000) (hn:tl.length<=100000000) (kl:n<=100000000):
 Calls prog 16 #[.pointer (some ⟨b,0,none⟩),.string s] w fun e w'=>e=.returned (.bool true) /\
   ((M.fh s≠0/\w.grownBy w' none)\/(M.fh s=0/\∃q gb gp cp gt ct C gM,Cmp w w' b base n vp vl vw va vn ve vr vt vo ps mark tl (M.gD s).1 q gb gp cp gt ct C gM)):=by
 obtain⟨i0,mB,cP,cQ,cZ⟩:=info_parts Tryz.avE;have dh:=hL.lt;have hvp:∀g,vp.ownBlock=some g->g<w.heap.size:=fun g hg=>(iL hp g hg).2;have hvt:∀g,vt.ownBlock=some g->g<w.heap.size:=fun g hg=>(iL hT.1 g hg).2;have HL:=ae hL;have Hp:=ae hp;have HT:=ae hT;have E7:=ae Dw;have Hv:=ae hv;have Hpb:=ae F8;have Hvp:=ae hvp;have VI:=ae hvt;clear hL hp hT Dw hv F8 hvp hvt;go_enter func16,ntmps16;go_wp2_with fail;refine(anO s w hs).mono ?_;rintro e w1⟨aH,hc⟩;have G1:=ae aH;by_cases GI:4096<s.size
 ·have hr:=R.auE GI
  rcases hc with⟨ey,rfl⟩|⟨h0,-⟩
  ·rw[hr]
   have CG:=ae ey;clear ey hr aH;go_wp2;go_ret;exact⟨rfl,.inl ⟨CG.out,G1.out⟩⟩
  ·rw[hr] at h0;exact aN h0 (by decide)
 ·have Ca:s.size<=4096:=by omega
  have HR:=ae (arI s.data.toList w1 (by simpa using Ca));have hS9:S9 s.data.toList=s:=by cases s;simp[S9]
  rw[hS9] at HR;have HN:Hid (R.fh s.data.toList=none->M.fh s=2):=fun h=>R.auC Ca h;have HY:Hid (∀g,R.fh s.data.toList=some g->g=R.dp (M.gD s).1/\ow (M.gD s).1/\M.fh s=R.sB g):=fun g h=>R.auD Ca h;have Jc:¬(4096<(s.size:Int)):=by omega
  clear hS9;rcases hc with⟨ey,rfl⟩|⟨h0,q,hq,rfl,hPl⟩
  ·have CG:=ae ey
   clear ey aH;obtain⟨x,Hx⟩:∃x,Hid (M.fh s=x):=⟨_,rfl⟩;rw[Hx.out];go_wp2_with fail;refine HR.out.mono ?_;rintro e w2⟨aM,h2⟩;have G2:=ae (aC G1.out aM);clear aM;rcases h2 with⟨hr,rfl⟩|⟨g,hr,rfl,G6⟩
   ·have e2:=HN.out hr.out
    rw[Hx.out] at e2;subst e2;clear hr;go_wp2;go_ret;exact⟨rfl,.inl ⟨CG.out,G2.out⟩⟩
   ·obtain⟨eg,hF,em⟩:=HY.out g hr.out
    subst eg;have HC:=ae (agP w1.heap.size _ w2 G6 (R.afX hF));rw[<-em,Hx.out] at HC;have mH:x≠0:=by rw[<-Hx.out];exact CG.out
    have b1:(x !=0)=true:=by simpa using mH
    clear hr G6 hF em HR;go_wp2_with fail;refine HC.out.mono ?_;rintro e w3⟨rfl,aU⟩;have G3:=ae (aC G2.out aU);clear aU HC mH;go_wp2;go_ret;exact⟨rfl,.inl ⟨CG.out,G3.out⟩⟩
  ·have H0:=ae h0
   have Es:=ae hPl;clear h0 hPl aH;go_wp2_with fail;refine HR.out.mono ?_;rintro e w2⟨aM,h2⟩;have wY:=ae aM;have G2:=ae (aC G1.out aM);clear aM;rcases h2 with⟨hr,rfl⟩|⟨g,hr,rfl,G6⟩
   ·have e2:=HN.out hr.out
    rw[H0.out] at e2;exact aN e2 (by decide)
   ·obtain⟨eg,hF,em⟩:=HY.out g hr.out
    subst eg;have HC:=ae (agP w1.heap.size _ w2 G6 (R.afX hF));rw[<-em,H0.out] at HC;have xW:=ae G6;clear hr G6 hF em HR;go_wp2_with fail;refine HC.out.mono ?_;rintro e w3⟨rfl,aU⟩;have G3:=ae (aC G2.out aU);have uN:=ae ((Es.out.Z (aC wY.out aU)));have ag1:=ae (xW.out.Z aU);have xS:=G1.out.size;have JP:=G3.out.size;have azr:=(aC wY.out aU).size;have qx:=ae (HL.out.kept G3.out (by simp));have LH:=ae (iF Hp.out G3.out (by simp));have rm:=ae (show Ts w3 base vt tl from ⟨iF HT.out.1 G3.out (by simp),fun t ht=>(HT.out.2 t ht).Z G3.out⟩);have c0:w3.cell? ⟨b,0,none⟩=some vp:=qx.out.cell 0;have HTl:=ae (fun t ht g hg=>(HT.out.2 t ht).lt g hg);clear aU HC Es xW wY HL Hp HT;go_wp2_with(at_builtin;refine wpList_append_lies _ rfl _ _ 27 rfl base 39 i0 (.agg #[.pointer none,.pointer none]) 2 16 underlying27 mB cP cQ cZ rfl (by decide) _ _ _ rfl (lB LH.out _) ⟨w3.heap.size,0,none⟩ 1 1 [.pointer (some ⟨q,0,none⟩),.pointer (some ⟨w1.heap.size,0,none⟩)] rfl rfl ?c1 ?c2 ?c3 ?c4 ?c5 ?c6 (w3.heap.size+1) ?c7 ?_)
    case c1=>exact kb w3 39 #[.pointer (some ⟨q,0,none⟩),.pointer (some ⟨w1.heap.size,0,none⟩)]
    case c2=>intro u hu;simp at hu;rcases hu with rfl|rfl<;>rfl
    case c3=>decide
    case c4=>unfold maxLen;omega
    case c5=>omega
    case c6=>simp;omega
    case c7=>simp
    intro gp cp w4 cB cR jr aJ;have bq:w3.grownBy w4 vp.ownBlock:=aC (aQ _ _ _) cR;have DA:vp.ownBlock=some gp\/w3.heap.size<=gp:=jr.imp id (fun h=>by omega);have Fa:gp≠b:=by
     rcases DA with h|h
     ·intro e;subst e;exact Hpb.out h
     ·omega
    have VJ:gp<w4.heap.size:=(iL cB gp rfl).2;have B4:LW w4 b vp vl vw va vn ve vr vt (.int .i64 mark) vo:=qx.out.kept bq (fun e=>Hpb.out e.symm);have b0:w4.cell? ⟨b,0,none⟩=some vp:=B4.cell 0;have f0:=B4.free 0;have qS:=bq.size;have j5:=bD w4 b 0 (.slice (some ⟨gp,0,none⟩) (n+1) cp);have B5:LW (w4.setCell ⟨b,0,none⟩ (.slice (some ⟨gp,0,none⟩) (n+1) cp)) b (.slice (some ⟨gp,0,none⟩) (n+1) cp) vl vw va vn ve vr vt (.int .i64 mark) vo:=B4.set 0 (.slice (some ⟨gp,0,none⟩) (n+1) cp);have xJ:(w4.setCell ⟨b,0,none⟩ (.slice (some ⟨gp,0,none⟩) (n+1) cp)).heap.size=w4.heap.size:=yC _ _ _;have Q5:=iF cB j5 (fun g hg e=>by have h1:some gp=some g:=hg;injection h1 with h1;injection e with e;exact Fa (h1.trans e));have F5:Fr (fun k=>k=b\/vp.ownBlock=some k) w3 (w4.setCell ⟨b,0,none⟩ (.slice (some ⟨gp,0,none⟩) (n+1) cp)):=((Fr.refl _ _).iK bq (fun g hg=>.inr (.inr hg))).iK j5 (fun g hg=>.inr (.inl (by injection hg with hg;exact hg.symm)));have T5:Ts (w4.setCell ⟨b,0,none⟩ (.slice (some ⟨gp,0,none⟩) (n+1) cp)) base vt tl:=⟨F5.jI rm.out.1 (fun g hg h=>by
      rcases h with h|h
      ·exact(Hv.out g hg).1 h
      ·exact(Hv.out g hg).2 h),fun t ht=>(rm.out.2 t ht).kept F5 (fun g hg h=>by
      rcases h with h|h
      ·exact(E7.out t ht g hg).1 h
      ·exact(E7.out t ht g hg).2.2 h)⟩
    have VK:nT w.heap.size w3.heap.size w3 (w4.setCell ⟨b,0,none⟩ (.slice (some ⟨gp,0,none⟩) (n+1) cp)):=F5.hZ (bj _) (fun k h=>by
      rcases h with h|h
      ·omega
      ·have:=Hvp.out k h;omega)
    have P5:=uN.out.EY.hZ VK;have R5:=(ag1.out.asc (B:=w.heap.size) (by omega)).hZ VK;have HC:=ae (afY b base q w1.heap.size w.heap.size w3.heap.size _ vl vw va vn ve vr vt vo mark tl _ _ B5 T5 (fun t ht g hg=>⟨(E7.out t ht g hg).1,(E7.out t ht g hg).2.1⟩) P5 R5 (by rw[xJ];exact qS) (by omega) (fun g hg=>⟨(Hv.out g hg).1,by have:=VI.out g hg;omega⟩) (by rw[xJ];omega) m0 m1 hn uN.out.lr);have LI:Fr (fun k=>k=b\/vp.ownBlock=some k\/vt.ownBlock=some k) w (w4.setCell ⟨b,0,none⟩ (.slice (some ⟨gp,0,none⟩) (n+1) cp)):=((Fr.uI G3.out).mono (fun k _ h=>by cases h)).trans (F5.mono (fun k _ h=>by
      rcases h with h|h
      ·exact .inl h
      ·exact .inr (.inl h)))
    have H5:=ae (And.intro Q5 (And.intro P5 (And.intro R5 LI)));have Hg:=ae (And.intro DA (And.intro Fa VJ));have H1:=ae uN.out.lr;clear cB cR jr aJ bq DA Fa B4 j5 B5 Q5 F5 T5 VK P5 R5 LI uN ag1 qx LH rm c0;go_wp2_with fail;generalize w4.setCell ⟨b,0,none⟩ (.slice (some ⟨gp,0,none⟩) (n+1) cp)=w5 at *;refine HC.out.mono ?_;rintro e w6⟨rfl,gt,ct,gM,hL6,h3,DJ,VL,ha6,VM,LJ⟩;obtain⟨Q5,P5,R5,LI⟩:=H5.out;obtain⟨DA,Fa,VJ⟩:=Hg.out;have VN:vt.ownBlock≠some gp:=fun e=>by
     rcases DA with h|h
     ·exact(Hv.out gp e).2 h
     ·have:=VI.out gp e;omega
    have VO:nT w.heap.size w3.heap.size w5 w6:=LJ.hZ (by omega) (fun k h=>by
      rcases h with h|h
      ·omega
      ·have:=VI.out k h;omega)
    have HE:Hid (Cmp w w6 b base n vp vl vw va vn ve vr vt vo ps mark tl (M.gD s).1 q w1.heap.size gp cp gt ct w3.heap.size gM):=
     {L:=hL6
      agS:=LJ.jI Q5 (fun g hg h=>by
       have h1:some gp=some g:=hg;injection h1 with h1;subst h1;rcases h with h|h
       ·exact Fa h
       ·exact VN h)
      zW:=h3
      T:=DJ
      bA:=fun t ht g hg=>by have:=VL t ht g hg;omega
      apart:=ha6
      agT:=VM.imp id (fun h=>by omega)
      agU:=DA
      ne:=⟨Fa,fun e=>by
       subst e;rcases VM with h|h
       ·exact VN h
       ·omega⟩
      agV:=fun t ht g hg e=>by
       subst e;rcases List.mem_append.1 ht with h|h
       ·rcases DA with h' |h'
        ·exact(E7.out t h g hg).2.2 h'
        ·have:=HTl.out t h g hg;omega
       ·have:=VL t h g hg;omega
      P:=P5.hZ VO
      G:=R5.hZ VO
      hC:=by have:=LJ.size;omega
      Bx:=by omega
      lr:=H1.out
      F:=LI.trans (LJ.mono (fun k _ h=>by
       rcases h with h|h
       ·exact .inl h
       ·exact .inr (.inr h)))}
    clear hL6 h3 DJ VL ha6 VM LJ Q5 P5 R5 LI DA Fa VJ VN VO HC H5 Hg b0 f0;go_wp2;go_ret;exact⟨rfl,.inr ⟨H0.out,q,w1.heap.size,gp,cp,gt,ct,w3.heap.size,gM,HE.out⟩⟩
theorem avI(b base DF:Nat)(vp va vn ve vr mark:Value)(a1 a2 a7 a9:Option Addr)(n c1 c2 n7 c7 n9 c9:Nat)(ls:List (List Int))(tl:List Td)(gs:List (Nat×Nat))(w:World)
  (hL:LW w b vp (.slice a1 n c1) (.slice a2 n c2) va vn ve vr (.slice a7 n7 c7) mark (.slice a9 n9 c9)) (h1:rZ w (.slice a1 n c1) ls) (h2:rZ w (.slice a2 n c2) ls) (hl:∀l∈ls,l.length<=1000000000) (hn:ls.length<=1000000000)
  (hT:Ts w base (.slice a7 n7 c7) tl) (ht:tl.length<=1000000000) (hE:wD w DF (.slice a9 n9 c9) gs) (hg:gs.length<=1000000000):
 Calls prog 21 #[.pointer (some ⟨b,0,none⟩)] w fun e w'=>e=.returned (.bool true)/\w.grownBy w' none:=by
 obtain rfl:=h1.len;have HL:=ae hL;have H1:=ae h1;have H2:=ae h2;have HT:=ae hT;have HE:=ae hE;have Hl:=ae hl;have q1:w.cell? ⟨b,1,none⟩=some (.slice a1 ls.length c1):=hL.cell 1;clear hL h1 h2 hT hE hl;go_enter func21,ntmps21;go_wp2;clear q1;go_loopw[3] (fun i w'=>∃k:Nat,k<=ls.length/\i=.int .i64 k/\Hid (w.grownBy w' none)) (fun i _=>ls.length-(intOf i).toNat)
 case atStart=>exact⟨0,bK _,rfl,fZ _ _⟩
 case round=>
  obtain⟨k,hk,rfl,HG⟩:=hrel;have kT:=HL.out.kept HG.out (by simp);have q1:wr.cell? ⟨b,1,none⟩=some (.slice a1 ls.length c1):=kT.cell 1;have q2:wr.cell? ⟨b,2,none⟩=some (.slice a2 ls.length c2):=kT.cell 2;by_cases aJ:k<ls.length
  ·obtain⟨l,hx⟩:∃l,ls[k]?=some l:=⟨_,aS aJ⟩
   obtain⟨p1,b1,d1,rfl,e1,s1⟩:=(H1.out.Z HG.out).get k l hx;obtain⟨p2,b2,d2,rfl,e2,s2⟩:=(H2.out.Z HG.out).get k l hx;have oF:=Hl.out l (bU hx);have HC:=ae (fun nd=>FU b1 b2 l.length d1 l.length d2 l l (wr.drewN nd) (s1.Z (bE wr nd none)) (s2.Z (bE wr nd none)) (by omega) (by omega));rw[show decide (l=l)=true from by simp] at HC;clear hx s1 s2 kT;go_wp2_with fail;go_quiet(exact Calls.quiet_of (HC.out _));have dN:=ae (aC HG.out (bE wr nq none));clear q1 q2 e1 e2 HC HG;generalize wr.drewN nq=wa at *;go_wp2;go_roundw
   case rel=>exact⟨k+1,by omega,by go_num,dN.out⟩
   case measure=>simp[intOf];omega
  ·obtain rfl:k=ls.length:=by omega
   have DB:=ae (acy b base a7 n7 c7 tl wr (kT.cell 7) ⟨iF HT.out.1 HG.out (by simp),fun t ht=>(HT.out.2 t ht).Z HG.out⟩ ht);clear q2;go_wp2_with fail;refine DB.out.mono ?_;rintro e wb⟨rfl,CC⟩;have Gb:=ae (aC HG.out CC);have OM:=ae (SN b DF a9 n9 c9 gs wb ((kT.kept CC (by simp)).cell 9) (HE.out.Z Gb.out) hg);clear CC DB q1 kT;go_wp2_with fail;refine OM.out.mono ?_;rintro e wc⟨rfl,rfl⟩;clear OM;go_wp2;go_ret;exact⟨rfl,Gb.out⟩
structure Pn where
 q:Nat
 gb:Nat
 B:Nat
 C:Nat
 md:M.Md
structure Kl where
 g:Nat
 h:Nat
 l:List Int
structure Ct where
 vp:Value
 v1:Value
 v2:Value
 va:Value
 vn:Value
 ve:Value
 vr:Value
 vt:Value
 vo:Value
 mark:Int
 ps:List Pn
 ls:List Kl
 rg:List Value
 tl:List Td
 os:List (Nat×Nat)
def Ct.cb(c:Ct):List Nat:=c.ls.map (·.g)++c.ls.map (·.h)
def Ct.df(c:Ct)(b g:Nat):Prop:=g=b\/c.vp.ownBlock=some g\/c.v1.ownBlock=some g\/c.v2.ownBlock=some g\/c.vr.ownBlock=some g\/c.vt.ownBlock=some g\/c.vo.ownBlock=some g\/g∈c.cb
def PW(p:Pn):List Value:=[.pointer (some ⟨p.q,0,none⟩),.pointer (some ⟨p.gb,0,none⟩)]
def xg(v:Value):Prop:=∃i:Int,v=.int .i64 i/\-9223372036854775808<=i/\i<=9223372036854775807
def Wn(ls:List Kl)(u:Value):Prop:=u=.slice none 0 0\/∃x∈ls,∃i n cp,u=.slice (some ⟨x.g,i,none⟩) n cp/\i+n<=x.l.length
structure St(wz w:World)(b k:Nat)(c:Ct):Prop where
 gz:wz.grownBy w none
 zb:wz.heap.size<=b
 L:LW w b c.vp c.v1 c.v2 c.va c.vn c.ve c.vr c.vt (.int .i64 c.mark) c.vo
 kp:w.ownsRow wz.heap.size 39 2 c.vp c.ps.length (c.ps.flatMap PW)
 k1:w.ownsRow wz.heap.size 33 1 c.v1 c.ls.length (c.ls.map fun x=>cT x.g x.l)
 k2:w.ownsRow wz.heap.size 33 1 c.v2 c.ls.length (c.ls.map fun x=>cT x.h x.l)
 kr:w.ownsRow wz.heap.size 33 1 c.vr c.rg.length c.rg
 T:Ts w wz.heap.size c.vt c.tl
 E:wD w wz.heap.size c.vo c.os
 pl:∀p∈c.ps,zP w p.B p.C p.q p.md/\yn w p.B p.C p.gb (R.dp p.md)/\O.iP p.md/\0<p.md.au.length/\p.C<=w.heap.size
 li:∀x∈c.ls,aj w x.g 3 (x.l.map (Value.int .i64)).toArray/\aj w x.h 3 (x.l.map (Value.int .i64)).toArray/\x.l.length<=1000000000
 nd:c.cb.Nodup
 zl:∀g∈c.cb,wz.heap.size<=g
 qJ:∀u∈c.rg,Wn c.ls u
 yw:∀p∈c.ps,∀g,c.df b g->¬(p.B<=g/\g<p.C)
 vj:∀t∈c.tl,∀g∈t.iG,¬c.df b g
 tX:∀p∈c.os,¬c.df b p.1
 bR:∀g,c.v1.ownBlock=some g->c.v2.ownBlock≠some g
 rE:∀g,c.v1.ownBlock=some g->c.vr.ownBlock≠some g
 rF:∀g,c.v2.ownBlock=some g->c.vr.ownBlock≠some g
 ia:xg c.va
 ie:xg c.vn
 ix:xg c.ve
 nl:c.ls.length<=300*k
 np:c.ps.length<=k
 nt:c.tl.length<=3*k
 no:c.os.length<=k
 nr:c.rg.length<=300*k
 m0:0<=c.mark
 m1:c.mark<=10000*k
theorem Fb{c:Ct}{b g:Nat}(h:g∈c.cb):c.df b g:=.inr (.inr (.inr (.inr (.inr (.inr (.inr h))))))
theorem St.cbk{wz w:World}{b k:Nat}{c:Ct}(h:St wz w b k c){g:Nat}(hg:g∈c.cb):∃cs,aj w g 3 cs:=by
 rcases List.mem_append.1 hg with hg|hg
 ·obtain⟨x,hx,rfl⟩:=List.mem_map.1 hg;exact⟨_,(h.li x hx).1⟩
 ·obtain⟨x,hx,rfl⟩:=List.mem_map.1 hg;exact⟨_,(h.li x hx).2.1⟩
theorem St.lt{wz w:World}{b k:Nat}{c:Ct}(h:St wz w b k c){g:Nat}(hg:c.df b g):wz.heap.size<=g/\g<w.heap.size:=by
 rcases hg with rfl|hg|hg|hg|hg|hg|hg|hg
 ·exact⟨h.zb,h.L.lt⟩
 ·exact iL h.kp g hg
 ·exact iL h.k1 g hg
 ·exact iL h.k2 g hg
 ·exact iL h.kr g hg
 ·exact iL h.T.1 g hg
 ·exact iL h.E.1 g hg
 ·obtain⟨cs,hB⟩:=h.cbk hg
  exact⟨h.zl g hg,hB.lt⟩
theorem St.EY{wz w w':World}{b k:Nat}{c:Ct}{S:Nat->Prop}(h:St wz w b k c)(hF:Fr S w w')(hS:∀g,S g->c.df b g):∀p∈c.ps,zP w' p.B p.C p.q p.md/\yn w' p.B p.C p.gb (R.dp p.md)/\O.iP p.md/\0<p.md.au.length/\p.C<=w'.heap.size:=fun p hp=>by
 obtain⟨a1,a2,a3,a4,a5⟩:=h.pl p hp;have hs:=hF.hZ (B:=p.B) a5 (fun g hg=>h.yw p hp g (hS g hg));exact⟨a1.hZ hs,a2.hZ hs,a3,a4,jN a5 hF.size⟩
theorem St.PX{wz w w':World}{b k:Nat}{c:Ct}{S:Nat->Prop}(h:St wz w b k c)(hF:Fr S w w')(hS:∀g cs,S g->¬aj w g 3 cs):∀x∈c.ls,aj w' x.g 3 (x.l.map (Value.int .i64)).toArray/\aj w' x.h 3 (x.l.map (Value.int .i64)).toArray/\x.l.length<=1000000000:=fun x hx=>by
 obtain⟨a1,a2,a3⟩:=h.li x hx;exact⟨hF.gy a1 (fun hs=>hS _ _ hs a1),hF.gy a2 (fun hs=>hS _ _ hs a2),a3⟩
theorem St.gr{wz w w':World}{b k:Nat}{c:Ct}{S:Nat->Prop}(h:St wz w b k c)(hF:Fr S w w')(hS:∀g,S g->c.df b g):wz.grownBy w' none:=Fr.gr h.gz hF (fun g hg=>(h.lt (hS g hg)).1)
theorem St.ts{wz w w':World}{b k:Nat}{c:Ct}{S:Nat->Prop}(h:St wz w b k c)(hF:Fr S w w')(hS:∀g,S g->c.df b g)(hv:∀g,c.vt.ownBlock=some g->¬S g):Ts w' wz.heap.size c.vt c.tl:=
 ⟨hF.jI h.T.1 hv,fun t ht=>(h.T.2 t ht).kept hF (fun g hg hs=>h.vj t ht g hg (hS g hs))⟩
theorem St.em{wz w w':World}{b k:Nat}{c:Ct}{S:Nat->Prop}(h:St wz w b k c)(hF:Fr S w w')(hS:∀g,S g->c.df b g)(hv:∀g,c.vo.ownBlock=some g->¬S g):wD w' wz.heap.size c.vo c.os:=
 ⟨hF.jI h.E.1 hv,fun p hp=>⟨(h.E.2 p hp).1,hF.gy (h.E.2 p hp).2 (fun hs=>h.tX p hp (hS _ hs))⟩⟩
def G7(w:World)(b:Nat)(c c':Ct):Prop:=∀g,c'.df b g->c.df b g\/w.heap.size<=g
theorem St.VP{wz w:World}{b k:Nat}{c c':Ct}(h:St wz w b k c)(hn:G7 w b c c'):∀p∈c.ps,∀g,c'.df b g->¬(p.B<=g/\g<p.C):=fun p hp g hg=>by
 rcases hn g hg with h' |h'
 ·exact h.yw p hp g h'
 ·have:=(h.pl p hp).2.2.2.2;omega
theorem St.VQ{wz w:World}{b k:Nat}{c c':Ct}(h:St wz w b k c)(hn:G7 w b c c'):∀t∈c.tl,∀g∈t.iG,¬c'.df b g:=fun t ht g hg hh=>by
 rcases hn g hh with h' |h'
 ·exact h.vj t ht g hg h'
 ·have:=(h.T.2 t ht).lt g hg;omega
theorem St.VR{wz w:World}{b k:Nat}{c c':Ct}(h:St wz w b k c)(hn:G7 w b c c'):∀p∈c.os,¬c'.df b p.1:=fun p hp hh=>by
 rcases hn p.1 hh with h' |h'
 ·exact h.tX p hp h'
 ·have:=(h.E.2 p hp).2.lt;omega
theorem St.grow{wz w w':World}{b k:Nat}{c:Ct}(h:St wz w b k c)(hg:w.grownBy w' none):St wz w' b k c:=
 have hF:Fr (fun _=>False) w w':=(Fr.uI hg).mono (fun k _ h=>by cases h)
 {h with
  gz:=aC h.gz hg
  L:=h.L.kept hg (by simp)
  kp:=iF h.kp hg (by simp)
  k1:=iF h.k1 hg (by simp)
  k2:=iF h.k2 hg (by simp)
  kr:=iF h.kr hg (by simp)
  T:=h.ts hF (fun _ e=>e.elim) (fun _ _ e=>e)
  E:=h.em hF (fun _ e=>e.elim) (fun _ _ e=>e)
  pl:=h.EY hF (fun _ e=>e.elim)
  li:=h.PX hF (fun _ _ e=>e.elim)}
theorem St.vH{wz w:World}{b k k':Nat}{c:Ct}(h:St wz w b k c)(hk:k<=k'):St wz w b k' c:=
 {h with
  nl:=by have:=h.nl;omega
  np:=by have:=h.np;omega
  nt:=by have:=h.nt;omega
  no:=by have:=h.no;omega
  nr:=by have:=h.nr;omega
  m1:=by have:=h.m1;omega}
theorem St.b1{wz w:World}{b k:Nat}{c:Ct}(h:St wz w b k c):c.v1.ownBlock≠some b:=kW h.k1 h.L (by decide)
theorem St.b2{wz w:World}{b k:Nat}{c:Ct}(h:St wz w b k c):c.v2.ownBlock≠some b:=kW h.k2 h.L (by decide)
theorem St.br{wz w:World}{b k:Nat}{c:Ct}(h:St wz w b k c):c.vr.ownBlock≠some b:=kW h.kr h.L (by decide)
theorem St.bp{wz w:World}{b k:Nat}{c:Ct}(h:St wz w b k c):c.vp.ownBlock≠some b:=kW h.kp h.L (by decide)
theorem St.bt{wz w:World}{b k:Nat}{c:Ct}(h:St wz w b k c):c.vt.ownBlock≠some b:=kW h.T.1 h.L (by decide)
theorem St.bo{wz w:World}{b k:Nat}{c:Ct}(h:St wz w b k c):c.vo.ownBlock≠some b:=kW h.E.1 h.L (by decide)
def LK:Ct:=⟨.slice none 0 0,.slice none 0 0,.slice none 0 0,.int .i64 0,.int .i64 0,.int .i64 0,.slice none 0 0,.slice none 0 0,.slice none 0 0,0,[],[],[],[],[]⟩
theorem St.bA(w:World):St w (w.alloc (.cells #[.slice none 0 0,.slice none 0 0,.slice none 0 0,.int .i64 0,.int .i64 0,.int .i64 0,.slice none 0 0,.slice none 0 0,.int .i64 0,.slice none 0 0] 31)) w.heap.size 1 LK:=
 {gz:=aQ w _ none
  zb:=bj _
  L:=aj.bA w _ _
  kp:=ki _ _ _ _
  k1:=ki _ _ _ _
  k2:=ki _ _ _ _
  kr:=ki _ _ _ _
  T:=⟨ki _ _ _ _,fun t ht=>by cases ht⟩
  E:=⟨ki _ _ _ _,fun t ht=>by cases ht⟩
  pl:=fun p hp=>by cases hp
  li:=fun p hp=>by cases hp
  nd:=List.nodup_nil
  zl:=fun p hp=>by cases hp
  qJ:=fun p hp=>by cases hp
  yw:=fun p hp=>by cases hp
  vj:=fun p hp=>by cases hp
  tX:=fun p hp=>by cases hp
  bR:=fun g e=>by cases e
  rE:=fun g e=>by cases e
  rF:=fun g e=>by cases e
  ia:=⟨0,rfl,by decide,by decide⟩
  ie:=⟨0,rfl,by decide,by decide⟩
  ix:=⟨0,rfl,by decide,by decide⟩
  nl:=by decide
  np:=by decide
  nt:=by decide
  no:=by decide
  nr:=by decide
  m0:=by decide
  m1:=by decide}
theorem avK{s:ByteArray}(h0:M.fh s=0)(h1:O.iP (M.gD s).1):0<(M.gD s).1.au.length:=by
 have hc:M.check (M.gD s).1=0:=by
  unfold M.fh at h0
  split at h0
  ·contradiction
  ·exact h0
 have hl:M.nj (M.gD s).1=true:=by
  unfold M.check at hc
  split at hc
  ·cases hc
  ·rename_i h;simpa using h
 unfold M.nj at hl;simp only[eX,Bool.not_eq_true',Bool.or_eq_false_iff] at hl;have ho:=hl.1.1.2;rcases e:(M.gD s).1.aK with _|⟨u,us⟩
 ·rw[e] at ho;cases ho
 ·have:=h1.aK u (by rw[e];exact pC ..)
  unfold M.uj at this;omega
theorem ag4{wz w:World}{b k:Nat}{c:Ct}(h:St wz w b k c)(hk:k<=3000000)(s:ByteArray)(hs:s.size<=9223372036854775807):
 Calls prog 16 #[.pointer (some ⟨b,0,none⟩),.string s] w fun e w'=>e=.returned (.bool true) /\
   ((M.fh s≠0/\St wz w' b (k+1) c)\/(∃vp vt mark p tl,St wz w' b (k+1) {c with vp:=vp,vt:=vt,mark:=mark,ps:=c.ps++[p],tl:=tl})):=
 (avF b wz.heap.size c.ps.length c.vp c.v1 c.v2 c.va c.vn c.ve c.vr c.vt c.vo (c.ps.flatMap PW) c.mark c.tl s w hs h.L h.kp h.T
  (fun t ht g hg=>⟨fun e=>h.vj t ht g hg (.inl e),fun e=>h.vj t ht g hg (.inr (.inr (.inr (.inr (.inr (.inl e)))))),fun e=>h.vj t ht g hg (.inr (.inl e))⟩)
  (fun g hg=>⟨fun e=>h.bt (by rw[<-e];exact hg),qG h.T.1 h.kp (by decide) g hg⟩) h.bp h.gz.size h.m0 (by have:=h.m1;omega) (by have:=h.nt;omega) (by have:=h.np;omega)).mono fun e w' ⟨he,hc⟩=>⟨he,by
  rcases hc with⟨ey,hg⟩|⟨h0,q,gb,gp,cp,gt,ct,C,gM,hC⟩
  ·exact .inl ⟨ey,(h.grow hg).vH (by omega)⟩
  ·refine .inr ⟨.slice (some ⟨gp,0,none⟩) (c.ps.length+1) cp,.slice (some ⟨gt,0,none⟩) (c.tl.length+3) ct,c.mark+3*(4+(lT (M.gD s).1).length),⟨q,gb,w.heap.size,C,(M.gD s).1⟩,c.tl++gM,?_⟩
   have hS:∀g,(g=b\/c.vp.ownBlock=some g\/c.vt.ownBlock=some g)->c.df b g:=fun g hg=>by
    rcases hg with hg|hg|hg
    ·exact .inl hg
    ·exact .inr (.inl hg)
    ·exact .inr (.inr (.inr (.inr (.inr (.inl hg)))))
   have oM:∀{T:TypeId} {v:Value} {n t base:Nat} {xs:List Value},w.ownsRow base T t v n xs->T≠31->T≠39->T≠119->∀g,v.ownBlock=some g->¬(g=b\/c.vp.ownBlock=some g\/c.vt.ownBlock=some g):=fun ho n1 n2 n3 g hg hx=>by
    rcases hx with hx|hx|hx
    ·subst hx;exact kW ho h.L n1 hg
    ·exact qG ho h.kp n2 g hg hx
    ·exact qG ho h.T.1 n3 g hg hx
   have zA:∀g cs,(g=b\/c.vp.ownBlock=some g\/c.vt.ownBlock=some g)->¬aj w g 3 cs:=fun g cs hx hB=>by
    rcases hx with hx|hx|hx
    ·subst hx;exact aN (tT h.L hB) (by decide)
    ·exact kW h.kp hB (by decide) hx
    ·exact kW h.T.1 hB (by decide) hx
   obtain⟨c',bF⟩:∃c',c'=({c with vp:=.slice (some ⟨gp,0,none⟩) (c.ps.length+1) cp,vt:=.slice (some ⟨gt,0,none⟩) (c.tl.length+3) ct,mark:=c.mark+3*(4+(lT (M.gD s).1).length),ps:=c.ps++[⟨q,gb,w.heap.size,C,(M.gD s).1⟩],tl:=c.tl++gM}:Ct):=⟨_,rfl⟩;have G8:∀g,c'.df b g->c.df b g\/(g=gp/\C<=gp)\/(g=gt/\C<=gt):=fun g hg=>by
    subst bF;rcases hg with hg|hg|hg|hg|hg|hg|hg|hg
    ·exact .inl (.inl hg)
    ·have e:some gp=some g:=hg
     injection e with e;rcases hC.agU with h' |h'
     ·exact .inl (.inr (.inl (by rw[<-e];exact h')))
     ·exact .inr (.inl ⟨e.symm,h'⟩)
    ·exact .inl (.inr (.inr (.inl hg)))
    ·exact .inl (.inr (.inr (.inr (.inl hg))))
    ·exact .inl (.inr (.inr (.inr (.inr (.inl hg)))))
    ·have e:some gt=some g:=hg
     injection e with e;rcases hC.agT with h' |h'
     ·exact .inl (.inr (.inr (.inr (.inr (.inr (.inl (by rw[<-e];exact h')))))))
     ·exact .inr (.inr ⟨e.symm,h'⟩)
    ·exact .inl (.inr (.inr (.inr (.inr (.inr (.inr (.inl hg)))))))
    ·exact .inl (Fb hg)
   have hwC:w.heap.size<=C:=hC.Bx;have vh:G7 w b c c':=fun g hg=>by
    rcases G8 g hg with h' |⟨h',ym⟩|⟨h',ym⟩
    ·exact .inl h'
    ·exact .inr (by omega)
    ·exact .inr (by omega)
   rw[<-bF];have f:=(Pf hC.lr).2.2.2.2;refine
    {gz:=h.gr hC.F hS
     zb:=h.zb
     L:=by subst bF;exact hC.L
     kp:=by subst bF;simpa[PW] using hC.agS
     k1:=by subst bF;exact hC.F.jI h.k1 (oM h.k1 (by decide) (by decide) (by decide))
     k2:=by subst bF;exact hC.F.jI h.k2 (oM h.k2 (by decide) (by decide) (by decide))
     kr:=by subst bF;exact hC.F.jI h.kr (oM h.kr (by decide) (by decide) (by decide))
     T:=by subst bF;exact hC.T
     E:=by subst bF;exact h.em hC.F hS (oM h.E.1 (by decide) (by decide) (by decide))
     pl:=fun p hp=>by
      have iJ:p∈c.ps++[⟨q,gb,w.heap.size,C,(M.gD s).1⟩]:=by subst bF;exact hp
      rcases List.mem_append.1 iJ with iJ|iJ
      ·exact h.EY hC.F hS p iJ
      ·obtain rfl:=List.mem_singleton.1 iJ
       exact⟨hC.P,hC.G,hC.lr,avK h0 hC.lr,hC.hC⟩
     li:=by subst bF;exact h.PX hC.F zA
     nd:=by subst bF;exact h.nd
     zl:=by subst bF;exact h.zl
     qJ:=by subst bF;exact h.qJ
     yw:=fun p hp g hg=>by
      have iJ:p∈c.ps++[⟨q,gb,w.heap.size,C,(M.gD s).1⟩]:=by subst bF;exact hp
      rcases List.mem_append.1 iJ with iJ|iJ
      ·exact h.VP vh p iJ g hg
      ·obtain rfl:=List.mem_singleton.1 iJ
       show ¬(w.heap.size<=g/\g<C);rcases G8 g hg with h' |⟨h',ym⟩|⟨h',ym⟩
       ·have:=h.lt h';omega
       ·omega
       ·omega
     vj:=fun t ht g hg hh=>by
      have ij:t∈c.tl++gM:=by subst bF;exact ht
      rcases List.mem_append.1 ij with h' |h'
      ·exact h.VQ vh t h' g hg hh
      ·have a1:=hC.bA t h' g hg
       have a2:=hC.apart t ij g hg;have a3:=hC.agV t ij g hg;rcases G8 g hh with h' |⟨h',ym⟩|⟨h',ym⟩
       ·have:=h.lt h';omega
       ·exact a3 h'
       ·exact a2.2 h'
     tX:=by
      have:=h.VR vh;subst bF;exact this
     bR:=by subst bF;exact h.bR
     rE:=by subst bF;exact h.rE
     rF:=by subst bF;exact h.rF
     ia:=by subst bF;exact h.ia
     ie:=by subst bF;exact h.ie
     ix:=by subst bF;exact h.ix
     nl:=by have:=h.nl;subst bF;show c.ls.length<=_;omega
     np:=by have:=h.np;subst bF;simp;omega
     nt:=by have:=h.nt;have:=hC.zW;subst bF;simp;omega
     no:=by have:=h.no;subst bF;show c.os.length<=_;omega
     nr:=by have:=h.nr;subst bF;show c.rg.length<=_;omega
     m0:=by have:=h.m0;subst bF;show 0<=c.mark+_;omega
     m1:=by have:=h.m1;subst bF;show c.mark+_<=_;omega}⟩
theorem St.avL{wz w:World}{b k:Nat}{c:Ct}(h:St wz w b k c):rZ w c.v1 (c.ls.map (·.l))/\rZ w c.v2 (c.ls.map (·.l)):=by
 have cF:∀(v:Value) (f:Kl->Nat),w.ownsRow wz.heap.size 33 1 v c.ls.length (c.ls.map fun x=>cT (f x) x.l)->(∀x∈c.ls,aj w (f x) 3 (x.l.map (Value.int .i64)).toArray)->rZ w v (c.ls.map (·.l)):=fun v f hv hb=>by
  obtain⟨ao,cp,e⟩:=gP hv;subst e;refine⟨ao,cp,by rw[jb],fun i l hl=>?_⟩;rw[dV] at hl;obtain⟨x,hx,rfl⟩:∃x,c.ls[i]?=some x/\x.l=l:=by
   rcases e:c.ls[i]? with _|x
   ·rw[e] at hl;cases hl
   ·rw[e] at hl;injection hl with hl;exact⟨x,rfl,hl⟩
  obtain⟨g,ea,-,-,iU⟩:=nE hv (by have:=M.bP hx;omega);subst ea;refine⟨_,some ⟨f x,0,none⟩,x.l.length,rfl,?_,?_⟩
  ·have ea:(⟨g,0,none⟩:Addr).add i=⟨g,i,none⟩:=by unfold Addr.add;split<;>simp_all
   rw[ea,iU i (by have:=M.bP hx;omega),dV,hx]
   rfl
  ·have hm:=bU hx
   exact(aZ.sO (base:=0) (bK _) rfl (by have:=(h.li x hm).2.2;unfold maxLen;omega) (hb x hm)).sl
 exact⟨cF c.v1 (·.g) h.k1 (fun x hx=>(h.li x hx).1),cF c.v2 (·.h) h.k2 (fun x hx=>(h.li x hx).2.1)⟩
theorem ag5{wz w:World}{b k:Nat}{c:Ct}(h:St wz w b k c)(hk:k<=3000000):
 Calls prog 21 #[.pointer (some ⟨b,0,none⟩)] w fun e w'=>e=.returned (.bool true)/\w.grownBy w' none:=by
 obtain⟨a1,c1,e1⟩:=gP h.k1;obtain⟨a2,c2,e2⟩:=gP h.k2;obtain⟨a7,c7,e7⟩:=gP h.T.1;obtain⟨a9,c9,e9⟩:=gP h.E.1;obtain⟨s1,s2⟩:=h.avL;have hL:=h.L;have hT:=h.T;have hE:=h.E;have nl:=h.nl;have nt:=h.nt;have no:=h.no;have li:=h.li;rw[e1] at s1 hL;rw[e2] at s2 hL;rw[e7] at hT hL;rw[e9] at hE hL;exact avI b wz.heap.size wz.heap.size c.vp c.va c.vn c.ve c.vr _ a1 a2 a7 a9 _ c1 c2 _ c7 _ c9 _ c.tl c.os w hL s1 s2 (fun l hl=>by
  obtain⟨x,hx,rfl⟩:=List.mem_map.1 hl;exact(li x hx).2.2) (by rw[jb];omega) hT (by omega) hE (by omega)
def kls:List Nat->List Nat->List (List Int)->List Kl
 |g::gs,h::hs,l::rs=>⟨g,h,l⟩::kls gs hs rs
 |_,_,_=>[]
theorem ag6{gs hs:List Nat}{rs:List (List Int)}(h1:gs.length=rs.length)(h2:hs.length=rs.length):
 (kls gs hs rs).length=rs.length/\(kls gs hs rs).map (fun x=>cT x.g x.l)=List.zipWith cT gs rs/\(kls gs hs rs).map (fun x=>cT x.h x.l)=List.zipWith cT hs rs/\(kls gs hs rs).map (·.g)=gs/\(kls gs hs rs).map (·.h)=hs/\∀x∈kls gs hs rs,∃j:Nat,gs[j]?=some x.g/\hs[j]?=some x.h/\rs[j]?=some x.l:=by
 induction rs generalizing gs hs with
 |nil=>
  have e1:gs=[]:=List.length_eq_zero_iff.1 h1;have e2:hs=[]:=List.length_eq_zero_iff.1 h2;subst e1 e2;exact⟨rfl,rfl,rfl,rfl,rfl,fun x hx=>by cases hx⟩
 |cons l rs ih=>
  rcases gs with _|⟨g,gs⟩
  ·cases h1
  ·rcases hs with _|⟨h,hs⟩
   ·cases h2
   ·obtain⟨a1,a2,a3,a4,a5,a6⟩:=ih (gs:=gs) (hs:=hs) (by simpa using h1) (by simpa using h2)
    refine⟨by simp[kls,a1],by simp[kls,a2],by simp[kls,a3],by simp[kls,a4],by simp[kls,a5],fun x hx=>?_⟩;rcases List.mem_cons.1 hx with rfl|hx
    ·exact⟨0,rfl,rfl,rfl⟩
    ·obtain⟨j,b1,b2,b3⟩:=a6 x hx
     exact⟨j+1,by simpa using b1,by simpa using b2,by simpa using b3⟩
theorem avM{G H gs hs:List Nat}{n:Nat}(h0:(G++H).Nodup)(h1:(gs++hs).Nodup)(hl:∀x∈G++H,x<n)(hr:∀x∈gs++hs,n<=x):((G++gs)++(H++hs)).Nodup:=by
 have hp:((G++gs)++(H++hs)).Perm ((G++H)++(gs++hs)):=by
  rw[j8,j8];exact List.Perm.append_left _ (List.perm_append_comm_assoc gs H hs)
 refine hp.nodup_iff.2 (List.nodup_append.2 ⟨h0,h1,fun x hx y hy e=>?_⟩);have:=hl x hx;have:=hr y hy;omega
theorem Wn.mono{ls nk:List Kl}{u:Value}(h:Wn ls u):Wn (ls++nk) u:=h.imp id (fun⟨x,hx,r⟩=>⟨x,List.mem_append_left _ hx,r⟩)
theorem St.PY{wz w w':World}{b k:Nat}{c:Ct}(h:St wz w b k c){u1 u2 va vn ve vr vo:Value}{nk:List Kl}{rg:List Value}{os:List (Nat×Nat)}
  (hF:Fr (fun g=>g=b\/c.v1.ownBlock=some g\/c.v2.ownBlock=some g\/c.vr.ownBlock=some g\/c.vo.ownBlock=some g) w w')
  (hL:LW w' b c.vp u1 u2 va vn ve vr c.vt (.int .i64 c.mark) vo)
  (k1:w'.ownsRow wz.heap.size 33 1 u1 (c.ls.length+nk.length) ((c.ls.map fun x=>cT x.g x.l)++nk.map fun x=>cT x.g x.l))
  (k2:w'.ownsRow wz.heap.size 33 1 u2 (c.ls.length+nk.length) ((c.ls.map fun x=>cT x.h x.l)++nk.map fun x=>cT x.h x.l))
  (kr:w'.ownsRow wz.heap.size 33 1 vr rg.length rg) (hE:wD w' wz.heap.size vo os)
  (li:∀x∈nk,aj w' x.g 3 (x.l.map (Value.int .i64)).toArray/\aj w' x.h 3 (x.l.map (Value.int .i64)).toArray/\x.l.length<=1000000000)
  (nd:(nk.map (·.g)++nk.map (·.h)).Nodup) (ab:∀g∈nk.map (·.g)++nk.map (·.h),w.heap.size<=g) (qJ:∀u∈rg,Wn (c.ls++nk) u)
  (o1:∀g,u1.ownBlock=some g->c.v1.ownBlock=some g\/w.heap.size<=g) (o2:∀g,u2.ownBlock=some g->c.v2.ownBlock=some g\/w.heap.size<=g)
  (LL:∀g,vr.ownBlock=some g->c.vr.ownBlock=some g\/w.heap.size<=g) (oo:∀g,vo.ownBlock=some g->c.vo.ownBlock=some g\/w.heap.size<=g)
  (bR:∀g,u1.ownBlock=some g->u2.ownBlock≠some g) (rE:∀g,u1.ownBlock=some g->vr.ownBlock≠some g) (rF:∀g,u2.ownBlock=some g->vr.ownBlock≠some g)
  (ap:∀p∈os,p∈c.os\/(w.heap.size<=p.1/\u1.ownBlock≠some p.1/\u2.ownBlock≠some p.1/\vr.ownBlock≠some p.1))
  (ia:xg va) (ie:xg vn) (ix:xg ve) (n1:nk.length<=300) (nr:rg.length<=300*(k+1)) (no:os.length<=k+1):
  St wz w' b (k+1) {c with v1:=u1,v2:=u2,va:=va,vn:=vn,ve:=ve,vr:=vr,vo:=vo,ls:=c.ls++nk,rg:=rg,os:=os}:=by
 obtain⟨c',bF⟩:∃c',c'=({c with v1:=u1,v2:=u2,va:=va,vn:=vn,ve:=ve,vr:=vr,vo:=vo,ls:=c.ls++nk,rg:=rg,os:=os}:Ct):=⟨_,rfl⟩;have hS:∀g,(g=b\/c.v1.ownBlock=some g\/c.v2.ownBlock=some g\/c.vr.ownBlock=some g\/c.vo.ownBlock=some g)->c.df b g:=fun g hg=>by
  rcases hg with hg|hg|hg|hg|hg
  ·exact .inl hg
  ·exact .inr (.inr (.inl hg))
  ·exact .inr (.inr (.inr (.inl hg)))
  ·exact .inr (.inr (.inr (.inr (.inl hg))))
  ·exact .inr (.inr (.inr (.inr (.inr (.inr (.inl hg))))))
 have oM:∀{T:TypeId} {v:Value} {n t base:Nat} {xs:List Value},w.ownsRow base T t v n xs->T≠31->T≠33->T≠25->∀g,v.ownBlock=some g->¬(g=b\/c.v1.ownBlock=some g\/c.v2.ownBlock=some g\/c.vr.ownBlock=some g\/c.vo.ownBlock=some g):=fun ho n1 n2 n3 g hg hx=>by
  rcases hx with hx|hx|hx|hx|hx
  ·subst hx;exact kW ho h.L n1 hg
  ·exact qG ho h.k1 n2 g hg hx
  ·exact qG ho h.k2 n2 g hg hx
  ·exact qG ho h.kr n2 g hg hx
  ·exact qG ho h.E.1 n3 g hg hx
 have zA:∀g cs,(g=b\/c.v1.ownBlock=some g\/c.v2.ownBlock=some g\/c.vr.ownBlock=some g\/c.vo.ownBlock=some g)->¬aj w g 3 cs:=fun g cs hx hB=>by
  rcases hx with hx|hx|hx|hx|hx
  ·subst hx;exact aN (tT h.L hB) (by decide)
  ·exact kW h.k1 hB (by decide) hx
  ·exact kW h.k2 hB (by decide) hx
  ·exact kW h.kr hB (by decide) hx
  ·exact kW h.E.1 hB (by decide) hx
 have OI:∀g,g∈c'.cb->g∈c.cb\/g∈nk.map (·.g)++nk.map (·.h):=fun g hg=>by
  subst bF;unfold Ct.cb at hg ⊢;simp only[lK,Ax] at hg ⊢;rcases hg with(hg|hg)|(hg|hg)
  ·exact .inl (.inl hg)
  ·exact .inr (.inl hg)
  ·exact .inl (.inr hg)
  ·exact .inr (.inr hg)
 have vh:G7 w b c c':=fun g hg=>by
  rcases hg with hg|hg|hg|hg|hg|hg|hg|hg
  ·exact .inl (.inl hg)
  ·subst bF;exact .inl (.inr (.inl hg))
  ·subst bF;exact(o1 g hg).imp (fun e=>.inr (.inr (.inl e))) id
  ·subst bF;exact(o2 g hg).imp (fun e=>.inr (.inr (.inr (.inl e)))) id
  ·subst bF;exact(LL g hg).imp (fun e=>.inr (.inr (.inr (.inr (.inl e))))) id
  ·subst bF;exact .inl (.inr (.inr (.inr (.inr (.inr (.inl hg))))))
  ·subst bF;exact(oo g hg).imp (fun e=>.inr (.inr (.inr (.inr (.inr (.inr (.inl e))))))) id
  ·exact(OI g hg).imp (fun e=>Fb e) (fun e=>ab g e)
 have LM:∀x∈c'.ls,aj w' x.g 3 (x.l.map (Value.int .i64)).toArray/\aj w' x.h 3 (x.l.map (Value.int .i64)).toArray/\x.l.length<=1000000000:=fun x hx=>by
  have Jq:x∈c.ls++nk:=by subst bF;exact hx
  rcases List.mem_append.1 Jq with hx|hx
  ·exact h.PX hF zA x hx
  ·exact li x hx
 have hcB:∀g∈c'.cb,∃cs,aj w' g 3 cs:=fun g hg=>by
  rcases List.mem_append.1 hg with hg|hg
  ·obtain⟨x,hx,rfl⟩:=List.mem_map.1 hg;exact⟨_,(LM x hx).1⟩
  ·obtain⟨x,hx,rfl⟩:=List.mem_map.1 hg;exact⟨_,(LM x hx).2.1⟩
 rw[<-bF];exact
  {gz:=h.gr hF hS
   zb:=h.zb
   L:=by subst bF;exact hL
   kp:=by subst bF;exact hF.jI h.kp (oM h.kp (by decide) (by decide) (by decide))
   k1:=by subst bF;rw[nJ,lK];exact k1
   k2:=by subst bF;rw[nJ,lK];exact k2
   kr:=by subst bF;exact kr
   T:=by subst bF;exact h.ts hF hS (oM h.T.1 (by decide) (by decide) (by decide))
   E:=by subst bF;exact hE
   pl:=by subst bF;exact h.EY hF hS
   li:=LM
   nd:=by
    have:=avM h.nd nd (fun x hx=>(h.lt (Fb hx)).2) ab;subst bF;unfold Ct.cb;rw[lK,lK];exact this
   zl:=fun g hg=>by
    rcases OI g hg with e|e
    ·exact h.zl g e
    ·exact jN h.gz.size (ab g e)
   qJ:=by subst bF;exact qJ
   yw:=by have:=h.VP vh;subst bF;exact this
   vj:=by have:=h.VQ vh;subst bF;exact this
   tX:=fun p hp hh=>by
    have iJ:p∈os:=by subst bF;exact hp
    rcases ap p iJ with e|⟨e0,e1,e2,e3⟩
    ·exact h.VR vh p e hh
    ·have hB:=(hE.2 p iJ).2
     have Js:¬c.df b p.1:=fun e=>by have:=(h.lt e).2;omega
     rcases hh with hg|hg|hg|hg|hg|hg|hg|hg
     ·exact Js (.inl hg)
     ·subst bF;exact Js (.inr (.inl hg))
     ·subst bF;exact e1 hg
     ·subst bF;exact e2 hg
     ·subst bF;exact e3 hg
     ·subst bF;exact Js (.inr (.inr (.inr (.inr (.inr (.inl hg))))))
     ·subst bF;exact kW hE.1 hB (by decide) hg
     ·obtain⟨cs,iA⟩:=hcB p.1 hg
      exact aN (tT hB iA) (by decide)
   bR:=by subst bF;exact bR
   rE:=by subst bF;exact rE
   rF:=by subst bF;exact rF
   ia:=by subst bF;exact ia
   ie:=by subst bF;exact ie
   ix:=by subst bF;exact ix
   nl:=by have:=h.nl;subst bF;rw[nJ];omega
   np:=by have:=h.np;subst bF;show c.ps.length<=_;omega
   nt:=by have:=h.nt;subst bF;show c.tl.length<=_;omega
   no:=by subst bF;exact no
   nr:=by subst bF;exact nr
   m0:=by subst bF;exact h.m0
   m1:=by have:=h.m1;subst bF;show c.mark<=_;omega}
theorem St.VS{wz w:World}{b k:Nat}{c:Ct}(h:St wz w b k c):Kp w w b wz.heap.size c.vp c.v1 c.v2 c.va c.vn c.ve c.vr c.vt (.int .i64 c.mark) c.vo c.v1 c.v2 c.ls.length (c.ls.map fun x=>cT x.g x.l) (c.ls.map fun x=>cT x.h x.l):=
 ⟨h.L,h.k1,h.k2,h.b1,h.b2,h.bR,fun _ e=>.inl e,fun _ e=>.inl e,Fr.refl _ _⟩
theorem avO(b base q gb B C:Nat)(md:M.Md)(vp v1 v2 va vn ve vr vt vm vo:Value)(n1:Nat)(xs ys:List Value)(s:ByteArray)(w:World)
  (hK:Kp w w b base vp v1 v2 va vn ve vr vt vm vo v1 v2 n1 xs ys) (zg:base<=w.heap.size) (iq:n1<=900000000) (hs:s.size<=1000000000)
  (hG:yn w B C gb (R.dp md)) (hC:C<=w.heap.size) (hS:∀k,(k=b\/v1.ownBlock=some k\/v2.ownBlock=some k)->¬(B<=k/\k<C)) (h1:O.iP md) (tL:0<md.au.length):
 Calls prog 20 #[.pointer (some ⟨b,0,none⟩),.agg #[.pointer (some ⟨q,0,none⟩),.pointer (some ⟨gb,0,none⟩)],.string s] w fun e w'=>e=.returned (.tuple #[])/\∃vk u1 u2 m rs gs hs,m<=24/\vg w w' b base vp v1 v2 va vn ve vk vt vm vo u1 u2 n1 m xs ys rs gs hs:=by
 obtain⟨i0,mB,cP,cQ,cZ⟩:=info_parts Tryz.Ey;obtain⟨j0,UX,vZ,qq,wg⟩:=info_parts Tryz.oO;have CN:=h1.nt;have fq:(R.jT md.au).length<=24:=by rw[UW];unfold H.cy;exact jN (List.length_filter_le _ _) (by simp;omega)
 have HD:Hid (∀(n:Nat) t,md.au[n]?=some t->∃X N:Nat,t.h*t.w=X/\X<=65025/\(X:Int)*t.c=N/\N<=512):=fun n t ht=>by
  have hd:=h1.kQ t (bU ht);have hh:=hd.h0;have hw:=hd.w0;have hc:=hd.c0;have m3:=xn (h:=t.h) (w:=t.w) (c:=t.c) (by omega) hd.h1 (by omega) hd.w1 (by omega) hd.c1;obtain⟨X,hX⟩:=fT m3.1;obtain⟨N,hN⟩:=fT m3.2.2.1;have azt:t.h*t.w*t.c<=512:=hd.mn;exact⟨X,N,hX,by omega,by rw[<-hX];exact hN,by omega⟩
 have K0:=hK.afR (.slice none 0 0);have f6:=hK.L.free 6;have c6:w.cell? ⟨b,6,none⟩=some vr:=hK.L.cell 6;have dh:=hK.L.lt;have g0:=aQ (w.setCell ⟨b,6,none⟩ (.slice none 0 0)) (.cells #[.pointer (some ⟨q,0,none⟩),.pointer (some ⟨gb,0,none⟩)] 39) none;have km:=aj.bA (w.setCell ⟨b,6,none⟩ (.slice none 0 0)) 39 #[.pointer (some ⟨q,0,none⟩),.pointer (some ⟨gb,0,none⟩)];rw[yC] at km;have K1:=K0.grow g0;have p1:=km.cell 1;simp only[show(#[Value.pointer (some ⟨q,0,none⟩),Value.pointer (some ⟨gb,0,none⟩)]:Array Value)[1]?=some (.pointer (some ⟨gb,0,none⟩)) from rfl] at p1;have dN:=ae (hG.hZ (K1.F.hZ hC hS));have nF:=ae km;have HK1:=ae K1;have SO:((w.setCell ⟨b,6,none⟩ (.slice none 0 0)).alloc (.cells #[.pointer (some ⟨q,0,none⟩),.pointer (some ⟨gb,0,none⟩)] 39)).heap.size=w.heap.size+1:=by simp
 have PF:Hid (∀g,(v1.ownBlock=some g\/v2.ownBlock=some g)->g<w.heap.size):=fun g hg=>hg.elim (fun e=>(iL hK.k1 g e).2) (fun e=>(iL hK.k2 g e).2);have HS:=ae hS;clear hK hG hS K0 K1 g0 km h1;go_enter func20,ntmps20;go_wp2_with fail;generalize (w.setCell ⟨b,6,none⟩ (.slice none 0 0)).alloc (.cells #[.pointer (some ⟨q,0,none⟩),.pointer (some ⟨gb,0,none⟩)] 39)=w1 at *;refine(Ul gb (R.dp md) w1 dN.out.KS (by show md.au.length<=255;omega)).mono ?_;rintro e w2⟨⟨ax,cx,rfl,hX⟩,g2⟩;have HX:=ae (show aZ w2 w1.heap.size (.slice ax (R.jT md.au).length cx) (R.jT md.au) from hX);have UY:(R.dp md).ts=md.au:=rfl;rw[UY];have G2:=ae g2;clear hX g2 p1 c6 f6;go_wp2_with fail;refine(Z9 s w2 hs).mono ?_;rintro e w3⟨rfl,VT,g3⟩;have PZ:=aC G2.out g3;have qi:=G2.out.size;have JP:=g3.size;have HX3:=ae (HX.out.Z g3);have HBy:=ae VT;have azu:=VT.lt;have HP:=ae (nF.out.kept PZ (by simp));have yk:=ae (HK1.out.grow PZ);have fR:=ae (dN.out.hZ (zO PZ (by omega)));have HF0:=ae (vg.nil yk.out.Te);have BB:=PF.out;have Ou:Hid (∀g,w.heap.size<=g->¬(g=b\/v1.ownBlock=some g\/v2.ownBlock=some g)):=fun g hg hx=>by
  rcases hx with hx|hx|hx
  ·omega
  ·have:=BB g (.inl hx);omega
  ·have:=BB g (.inr hx);omega
 have yb:=ae yk.out.F;clear HX nF HK1 dN VT g3 PZ G2 BB PF;go_wp2;go_loopw[7,9] (fun kv i wr=>∃(k kk:Nat) (vk u1 u2:Value) (rs:List (List Int)) (gs jJ:List Nat),Hid (k<=(R.jT md.au).length)/\Hid (kk<=512*k)/\kv=.int .i64 kk/\i=.int .i64 k/\Hid (vg w3 wr b base vp v1 v2 va vn ve vk vt vm vo u1 u2 n1 k xs ys rs gs jJ)) (fun _ i _=>(R.jT md.au).length-(intOf i).toNat)
 case atStart=>exact⟨0,0,.slice none 0 0,v1,v2,[],[],[],bK _,bK _,rfl,rfl,HF0.out⟩
 case round=>
  clear HF0 yk;obtain⟨k,kk,vk,u1,u2,rs,gs,jJ,Hk,Hkk,rfl,rfl,HF⟩:=hrel;have hk:=Hk.out;have hkk:=Hkk.out;by_cases aJ:k<(R.jT md.au).length
  ·have hF:=HF.out.K.F
   have Yi:=hF.size;have nS:=Ou.out;obtain⟨x,hx⟩:∃x,(R.jT md.au)[k]?=some x:=⟨_,aS aJ⟩;obtain⟨n,t,rfl,fP,ht,k0,xL⟩:=R.KR _ _ (bj _) k x hx;have hX:aZ wr w1.heap.size (.slice ax (R.jT md.au).length cx) (R.jT md.au):=hF.jI HX3.out (fun g hg=>nS g (by have:=(iL HX3.out g hg).1;omega));obtain⟨aX,rfl,dX⟩:=hX.sl.get k n hx;obtain⟨ga,c1,By⟩:=(fR.out.hZ (hF.hZ (by omega) HS.out)).KS.Uq tL;have hT:=By.t n t ht;have q0:wr.cell? ⟨gb,0,none⟩=some (.slice (some ⟨ga,0,none⟩) md.au.length c1):=By.q;have p1:wr.cell? ⟨w.heap.size,1,none⟩=some (.pointer (some ⟨gb,0,none⟩)):=hF.cell HP.out (nS _ (bj _)) rfl;have aha:=ae (hF.gy HBy.out (nS _ (by omega)));obtain⟨X,N,hXe,hX2,hN,hN2⟩:=HD.out n t ht;have t1:=hT.h;have t2:=hT.v;have t3:=hT.c;have wX:IntKind.i64.wrap (t.h*t.w)=(X:Int):=by rw[hXe,cU];omega
   have wN:IntKind.i64.wrap ((X:Int)*t.c)=(N:Int):=by rw[hN,cU];omega
   have azx:=M.bP ht;clear hF nS hX By hT hx xL fP ht k0 hXe hN;go_wp2_with fail;go_quiet(fail);have gq:=bE wr nq none;have Lu:=ae (HF.out.grow gq);have ahc:=ae (aha.out.kept gq (by simp));have s1:=aG gq t1;have s2:=aG gq t2;have s3:=aG gq t3;have Pu:=gq.size;clear HF aha t1 t2 t3 gq dX q0 p1;generalize wr.drewN nq=wa at *;go_wp2_with fail;go_still_tail 14,(by kernel_rfl);show wpList _ _ _ _ _ (World.drew _);have gq:=gE wa none;have VU:=ae (Lu.out.grow gq);have avR:=ae (ahc.out.kept gq (by simp));have hsb:=gq.size;clear Lu ahc s1 s2 s3 gq wX wN;generalize wa.drew=wb at *;go_wp2_with(at_make;refine qg _ rfl _ _ 33 rfl wb.heap.size 3 j0 (.int .i64 0) 1 underlying33 UX vZ qq _ _ _ _ N rfl rfl rfl rfl ?c1 ?c2 ?c3 ?_)
   case c1=>rw[wg];omega
   case c2=>unfold maxLen;omega
   case c3=>exact bj _
   intro w5 cB cK;have oE:=ae (xl cB);have iC:=ae cK;clear cB cK;go_wp2;go_loopw[7,12] (fun kv j w'=>∃(jj tY:Nat) (l:List Int),Hid (jj<=N)/\Hid (tY<=kk+jj)/\kv=.int .i64 tY/\j=.int .i64 jj/\Hid (l.length=N)/\Hid (aj w' wb.heap.size 3 (l.map (Value.int .i64)).toArray)/\Hid (wb.grownBy w' none)) (fun _ j _=>N-(intOf j).toNat)
   case atStart=>exact⟨0,kk,List.replicate N 0,bK _,bj _,rfl,rfl,(by unfold Hid;simp),(by unfold Hid;simpa using oE.out),iC.out⟩
   case round=>
    clear oE iC;obtain⟨jj,tY,l,Hjj,avT,rfl,rfl,zD,mV,HH⟩:=hrel;have hjj:=Hjj.out;have azz:=avT.out;by_cases Aa:jj<N/\0<s.size
    ·obtain⟨hj,Vs⟩:=Aa
     have hm:tY%s.size<s.size:=abc _ Vs;have tm:Int.tmod (tY:Int) (s.size:Int)=((tY%s.size:Nat):Int):=by rw[Int.tmod_eq_emod_of_nonneg (by omega)];exact(Int.natCast_emod tY s.size).symm
     obtain⟨x,hx⟩:∃x,(yY s)[tY%s.size]?=some x:=⟨_,N8 s _ hm⟩;have dB:wr.cell? ⟨w2.heap.size,tY%s.size,none⟩=some (.int .i64 x):=by rw[(avR.out.kept HH.out (by simp)).cell _,nP,dV,hx];rfl
     obtain⟨m,Hm⟩:∃m,Hid (tY%s.size=m):=⟨_,rfl⟩;rw[Hm.out] at hm tm dB;clear hx;obtain⟨y,hy⟩:∃y,l[jj]?=some y:=⟨_,aS (by rw[zD.out];exact hj)⟩;have d0:wr.cell? ⟨wb.heap.size,jj,none⟩=some (.int .i64 y):=by rw[mV.out.cell jj,nP,dV,hy];rfl
     have f0:=mV.out.free jj;have iD:Hid (aj (wr.setCell ⟨wb.heap.size,jj,none⟩ (.int .i64 x)) wb.heap.size 3 ((l.set jj x).map (Value.int .i64)).toArray):=by
      have e:=mV.out.set jj (.int .i64 x);rw[Lm,<-List.map_set] at e;exact e
     have dU:=ae (dF HH.out (bD wr wb.heap.size jj (.int .i64 x)) (bj _));have dh:=mV.out.lt;have ey:¬((s.size:Int)=0):=by omega
     clear hy mV HH;go_wp2;go_roundw
     case rel=>exact⟨jj+1,tY+1,l.set jj x,(show jj+1<=N by omega),(show tY+1<=kk+(jj+1) by omega),by go_num,by go_num,(by unfold Hid;rw[kK];exact zD.out),iD.out,dU.out⟩
     case measure=>simp[intOf];omega
    ·have zL:(jj=N/\True)\/(jj<N/\¬(0<(s.size:Int))):=by
      by_cases e:jj=N
      ·exact .inl ⟨e,trivial⟩
      ·exact .inr ⟨by omega,fun h=>Aa ⟨by omega,by omega⟩⟩
     have hNe:=zD.out;subst hNe;have H9:=ae (VU.out.grow HH.out);have dh:=mV.out.lt;have gQ:=HH.out.size;have ng:Sl wr (.slice (some ⟨wb.heap.size,0,none⟩) l.length l.length) l:=(aZ.sO (base:=0) (bK _) rfl (by unfold maxLen;omega) mV.out).sl;have HC:=ae (H9.out.K.Bz (by omega) (by omega) ng (by omega));have avV:Hid (∀g∈gs++jJ,g<wb.heap.size):=fun g hg=>(VU.out.ab g hg).2;clear ng VU;clear Aa;rcases zL with⟨e1,e2⟩|⟨e1,e2⟩
     all_goals
      go_wp2_with fail;refine HC.out.mono ?_;rintro e wc⟨rfl,g1,Vd,g2,Ve,wZ,yu,p9,o1,o2⟩;have HRc:=ae (p9.jI H9.out.R (fun g hg hx=>by
       have:=H9.out.rb g hg;rcases hx with hx|hx|hx
       ·exact this.1 hx
       ·exact this.2.1 hx
       ·exact this.2.2 hx))
      have c6:wc.cell? ⟨b,6,none⟩=some vk:=wZ.L.cell 6;have IJ:=p9.size;have Fe:=ae (And.intro wZ (And.intro yu (And.intro p9 (And.intro o1 o2))));clear wZ yu p9 o1 o2 HC;go_wp2_with(at_builtin;refine wpList_append_lies _ rfl _ _ 25 rfl w3.heap.size 33 i0 (.slice none 0 0) 1 24 underlying25 mB cP cQ cZ rfl (by decide) _ _ _ rfl (lB HRc.out _) ⟨wc.heap.size,0,none⟩ 1 1 [.slice (some ⟨wb.heap.size,0,none⟩) l.length l.length] rfl rfl ?c1 ?c2 ?c3 ?c4 ?c5 ?c6 (wc.heap.size+1) ?c7 ?_)
      case c1=>exact kb wc 33 #[.slice (some ⟨wb.heap.size,0,none⟩) l.length l.length]
      case c2=>intro u hu;simp at hu;subst hu;rfl
      case c3=>decide
      case c4=>unfold maxLen;omega
      case c5=>omega
      case c6=>simp;omega
      case c7=>simp
      intro gr cr wd cB cR jr avW;have bq:wc.grownBy wd vk.ownBlock:=aC (aQ _ _ _) cR;have HE:=ae (vg.py H9.out mV.out Fe.out.1 Fe.out.2.1 Fe.out.2.2.1 Fe.out.2.2.2.1 Fe.out.2.2.2.2 cB bq jr (by omega) avV.out (by omega));have P1:=Fe.out.1.L.kept bq (fun e=>(H9.out.rb b e.symm).1 rfl);have d6:wd.cell? ⟨b,6,none⟩=some vk:=P1.cell 6;have f6:=P1.free 6;have mZ:=P1.lt;clear cB cR jr avW bq P1 Fe HRc c6 mV HH H9;go_wp2;go_roundw
      case rel=>exact⟨k+1,tY,_,_,_,rs++[l],gs++[wb.heap.size],jJ++[wr.heap.size],(show k+1<=_ by omega),(show tY<=512*(k+1) by omega),rfl,by go_num,HE⟩
      case measure=>simp[intOf];omega
  ·obtain rfl:k=(R.jT md.au).length:=by omega
   have HE:Hid (vg w wr b base vp v1 v2 va vn ve vk vt vm vo u1 u2 n1 (R.jT md.au).length xs ys rs gs jJ):=by
    have h:=HF.out;refine⟨Kp.iK yb.out h.K,h.l0,h.l1,h.l2,h.nd,fun g hg=>⟨?_,(h.ab g hg).2⟩,h.f1,h.f2,nC h.R (by omega),h.sh,h.rb⟩;have:=(h.ab g hg).1;omega
   clear HF;go_wp2;go_end0;exact⟨rfl,vk,u1,u2,_,rs,gs,jJ,fq,HE.out⟩
end Go.Proofs.YtcnhfffgbamonaaGreat
