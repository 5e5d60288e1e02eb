import Derived.Test.YtcnhfffgbamonaaGreatZ43
set_option maxRecDepth 100000
set_option maxHeartbeats 6400000
namespace Go.Proofs.YtcnhfffgbamonaaGreat
open Go.Proofs.Tryz
open RowKit
theorem avY(s:ByteArray)(a:Option Addr)(n cp:Nat)(ins:List (List Int))(w:World)(hs:s.size<=10000000)(hI:rD w w (.slice a n cp) ins)(hl:∀l∈ins,l.length<=10000000)(hn:ins.length<=10000000):
 Calls prog 6 #[.string s,.slice a n cp] w fun e w'=>e=.returned (.bool true)/\w.grownBy w' none:=by
 obtain rfl:=hI.len;obtain⟨i0,mB,cP,cQ,cZ⟩:=info_parts Tryz.Ey;have HI:=ae hI;have Hl:=ae hl;have Ln:=ae (St.bA w);clear hI hl;go_enter func6,ntmps6;go_wp2_with fail;refine(ag4 Ln.out (by omega) s (by omega)).mono ?_;rintro e w1⟨rfl,h1⟩;clear Ln;rcases h1 with⟨ey,qa⟩|⟨vp,vt,mark,p,tl,qa⟩
 ·have c0:w1.cell? ⟨w.heap.size,0,none⟩=some (.slice none 0 0):=qa.L.cell 0
  have G:=ae qa.gz;clear qa ey;go_wp2;go_ret;exact⟨rfl,G.out⟩
 ·obtain⟨gp,zY,yx,hR⟩:=qa.P3 (i:=0) (p:=p) rfl
  have avZ:vp=.slice (some ⟨gp,0,none⟩) 1 zY:=yx;subst avZ;have c0:w1.cell? ⟨w.heap.size,0,none⟩=some (.slice (some ⟨gp,0,none⟩) 1 zY):=qa.L.cell 0;have eJ:=ae qa;have HR:=ae hR;clear qa hR yx;go_wp2;clear c0;go_loopw[7,8] (fun v i wr=>∃(k:Nat) (gs:List Nat) (av:Option Addr) (cv:Nat),Hid (k<=ins.length)/\v=.slice av k cv/\i=.int .i64 k/\Hid (gs.length=k)/\Hid (wr.ownsRow w1.heap.size 33 1 (.slice av k cv) k (List.zipWith cT gs (ins.take k)))/\Hid (∀(j:Nat) g l,gs[j]?=some g->ins[j]?=some l->aj wr g 3 (l.map (Value.int .i64)).toArray)/\Hid (w1.grownBy wr none)) (fun _ i _=>ins.length-(intOf i).toNat)
  case atStart=>exact⟨0,[],none,0,bK _,rfl,rfl,rfl,ki _ _ _ _,(fun j g l h=>aN h (by simp)),fZ _ _⟩
  case round=>
   obtain⟨k,gs,av,cv,Hk,rfl,rfl,jH,qH,HB,HG⟩:=hrel;have hk:=Hk.out;by_cases aJ:k<ins.length
   ·obtain⟨l,hx⟩:∃l,ins[k]?=some l:=⟨_,aS aJ⟩
    have gw:w.grownBy wr none:=aC eJ.out.gz HG.out;obtain⟨aI,bI,cI,rfl,dI,ng⟩:=HI.out.get k l hx;have P4:=aG gw dI;have oF:=Hl.out l (bU hx);have HC:=ae (SB bI l.length cI l wr ((ng.sl (fZ _ _)).Z gw) (by omega));have Hx:=ae hx;clear ng hx dI gw;go_wp2_with fail;refine HC.out.mono ?_;rintro e w2⟨rfl,ff,aM⟩;clear HC P4;have P6:=ae (iF qH.out aM (by simp));have iD:=ae ff;have wY:=ae aM;have qi:=aM.size;have xS:=HG.out.size;clear ff aM;go_wp2_with(at_builtin;refine wpList_append_lies _ rfl _ _ 25 rfl w1.heap.size 33 i0 (.slice none 0 0) 1 24 underlying25 mB cP cQ cZ rfl (by decide) _ _ _ rfl (lB P6.out _) ⟨w2.heap.size,0,none⟩ 1 1 [.slice (some ⟨wr.heap.size,0,none⟩) l.length l.length] rfl rfl ?c1 ?c2 ?c3 ?c4 ?c5 ?c6 (w2.heap.size+1) ?c7 ?_)
    case c1=>exact kb w2 33 #[.slice (some ⟨wr.heap.size,0,none⟩) l.length l.length]
    case c2=>intro u hu;simp at hu;subst hu;rfl
    case c3=>decide
    case c4=>unfold maxLen;omega
    case c5=>omega
    case c6=>simp;omega
    case c7=>simp
    intro g3 av0 w3 cB cR jr qn;have bq:w2.grownBy w3 (Value.slice av k cv).ownBlock:=aC (aQ _ _ _) cR;have Bx:∀g,(Value.slice av k cv).ownBlock=some g->w1.heap.size<=g:=fun g hg=>(iL P6.out g hg).1;have VW:∀(g:Nat) cs,aj w2 g 3 cs->aj w3 g 3 cs:=fun g cs h=>h.kept bq (fun e=>kW P6.out h (by decide) e.symm);have fR:=ae (l8 (aC HG.out wY.out) bq Bx);have av1:Hid ((gs++[wr.heap.size]).length=k+1):=by unfold Hid;simp[jH.out]
    have av2:Hid (w3.ownsRow w1.heap.size 33 1 (.slice (some ⟨g3,0,none⟩) (k+1) av0) (k+1) (List.zipWith cT (gs++[wr.heap.size]) (ins.take (k+1)))):=by
     unfold Hid;rw[H.kd Hx.out,PG (by rw[jH.out,xE];omega)];exact cB
    have fU:Hid (∀(j:Nat) g l,(gs++[wr.heap.size])[j]?=some g->ins[j]?=some l->aj w3 g 3 (l.map (Value.int .i64)).toArray):=fun j g l' hj fI=>by
     rcases cE j gs.length with h|h
     ·rw[qT h] at hj
      exact VW _ _ ((HB.out j g l' hj fI).kept wY.out (by simp))
     ·have ej:j=k:=by have:=M.bP hj;simp[jH.out] at this;have:=jH.out;omega
      subst ej;rw[og h,jH.out,Nat.sub_self] at hj;simp at hj;subst hj;rw[Hx.out] at fI;injection fI with fI;subst fI;exact VW _ _ iD.out
    clear cB cR jr qn bq Bx VW qH P6 HB iD HG wY;go_wp2;go_roundw
    case rel=>exact⟨k+1,gs++[wr.heap.size],_,_,(show k+1<=_ by omega),rfl,by go_num,av1,av2,fU,fR⟩
    case measure=>simp[intOf];omega
   ·obtain rfl:k=ins.length:=by omega
    have LO:=ae (eJ.out.grow HG.out);have hRr:=amW HR.out HG.out;have c0:wr.cell? ⟨w.heap.size,0,none⟩=some (.slice (some ⟨gp,0,none⟩) 1 zY):=LO.out.L.cell 0;have VX:=qH.out;rw[jm] at VX;have VY:=ae VX;have HRr:=ae hRr;have xS:=HG.out.size;have dh:=eJ.out.L.lt;clear eJ HR qH VX;have HC:=ae (VV LO.out (by omega) (p:=p) (List.mem_singleton.2 rfl) a ins.length cp ins (HI.out.Z LO.out.gz) (fun l hl=>by have:=Hl.out l hl;omega) (by omega));go_wp2_with(refine wpList_load_mid rfl 39 _ rfl gp 0 rfl [.pointer (some ⟨p.q,0,none⟩),.pointer (some ⟨p.gb,0,none⟩)] _ HRr.out underlying39 rfl Tryz.Ia ?_);refine HC.out.mono ?_;rintro e w4⟨rfl,P7,v1,v2,vo,nk,os,ahi⟩;have nS:∀g,g≠w.heap.size->¬(g=w.heap.size\/(Value.slice none 0 0).ownBlock=some g\/(Value.slice none 0 0).ownBlock=some g\/(Value.slice none 0 0).ownBlock=some g\/(Value.slice none 0 0).ownBlock=some g):=fun g hg hx=>by
     rcases hx with hx|hx|hx|hx|hx
     ·exact hg hx
     all_goals cases hx
    have ahj:=ae (P7.jI VY.out (fun g hg=>nS g (by have:=(iL VY.out g hg).1;omega)));have iS:=ae (fun(j:Nat) g l hj hl=>P7.gy (HB.out j g l hj hl) (nS g (fun e=>by have:=HB.out j g l hj hl;rw[e] at this;exact aN (tT LO.out.L this) (by decide))));have jS:=ae ahi;have qS:=P7.size;clear P7 ahi nS HC VY HB LO HRr hRr c0 HG;go_wp2;go_loopw[12] (fun i wr=>∃k:Nat,Hid (k<=ins.length)/\i=.int .i64 k/\Hid (w4.grownBy wr none)) (fun i _=>ins.length-(intOf i).toNat)
    case atStart=>exact⟨0,bK _,rfl,fZ _ _⟩
    case round=>
     obtain⟨k,Hk,rfl,HG⟩:=hrel;have hk:=Hk.out;by_cases aJ:k<ins.length
     ·obtain⟨l,hx⟩:∃l,ins[k]?=some l:=⟨_,aS aJ⟩
      obtain⟨g,aF⟩:∃g,gs[k]?=some g:=⟨_,aS (by rw[jH.out];exact aJ)⟩;have gw:w.grownBy wr none:=aC jS.out.gz HG.out;obtain⟨aI,bI,cI,rfl,dI,ng⟩:=HI.out.get k l hx;have P4:=aG gw dI;have oF:=Hl.out l (bU hx);obtain⟨gB,ea,-,-,iU⟩:=nE ahj.out (by omega);subst ea;have dB:wr.cell? ⟨gB,k,none⟩=some (.slice (some ⟨g,0,none⟩) l.length l.length):=aG HG.out (by rw[iU k (by omega),aa7,aF,hx];rfl);have xh:Sl wr (.slice (some ⟨g,0,none⟩) l.length l.length) l:=(aZ.sO (base:=0) (bK _) rfl (by unfold maxLen;omega) ((iS.out k g l aF hx).kept HG.out (by simp))).sl;have Fx:=(ng.sl (fZ _ _)).Z gw;have HC:=ae (fun nd=>FU bI (some ⟨g,0,none⟩) l.length cI l.length l.length l l (wr.drewN nd) (Fx.Z (bE wr nd none)) (xh.Z (bE wr nd none)) (by omega) (by omega));rw[show decide (l=l)=true from by simp] at HC;clear ng hx aF dI gw iU Fx xh;go_wp2_with fail;go_quiet(exact Calls.quiet_of (HC.out _));have dU:=ae (aC HG.out (bE wr nq none));clear HC HG P4 dB;generalize wr.drewN nq=wq at *;go_wp2;go_roundw
      case rel=>exact⟨k+1,(show k+1<=_ by omega),by go_num,dU⟩
      case measure=>simp[intOf];omega
     ·obtain rfl:k=ins.length:=by omega
      have sw:=ae (jS.out.grow HG.out);clear jS HG ahj iS;have VZ:(ins.length=0)\/(∃l aI bI cI,a=some aI/\ins[0]?=some l/\0<ins.length/\w.cell? aI=some (.slice bI l.length cI)/\Sl w (.slice bI l.length cI) l):=by
       rcases Nat.eq_zero_or_pos ins.length with e|e
       ·exact .inl e
       ·obtain⟨l,hx⟩:∃l,ins[0]?=some l:=⟨_,aS e⟩
        obtain⟨aI,bI,cI,ea,dI,ng⟩:=HI.out.get 0 l hx;exact .inr ⟨l,aI,bI,cI,ea,hx,e,by simpa[Addr.add] using dI,ng.sl (fZ _ _)⟩
      go_wp2;go_loopw[14,15] (fun t i wr=>∃(k:Nat) (tb:ByteArray),Hid (tb.size=k)/\Hid (k<=10000000)/\t=.string tb/\i=.int .i64 k/\Hid (St w wr w.heap.size 3 {LK with v1:=v1,v2:=v2,vo:=vo,vp:=.slice (some ⟨gp,0,none⟩) 1 zY,vt:=vt,mark:=mark,ps:=LK.ps++[p],tl:=tl,ls:=LK.ls++nk,os:=os})) (fun _ i _=>20000000-(intOf i).toNat)
      case atStart=>exact⟨0,⟨#[]⟩,rfl,bK _,rfl,rfl,sw.out⟩
      case round=>
       clear sw;obtain⟨k,tb,Ji,PU,rfl,rfl,HS⟩:=hrel;have qo:=PU.out;have gw:=HS.out.gz;by_cases V0:∃l aI bI cI,a=some aI/\ins[0]?=some l/\0<ins.length/\w.cell? aI=some (.slice bI l.length cI)/\Sl w (.slice bI l.length cI) l/\k<l.length
       ·obtain⟨l,aI,bI,cI,rfl,hx,yH,dI,ng,pz⟩:=V0
        obtain⟨x,hxk⟩:∃x,l[k]?=some x:=⟨_,aS pz⟩;obtain⟨a2,rfl,d2⟩:=(ng.Z gw).get k x hxk;have P4:=aG gw dI;have oF:=Hl.out l (bU hx);have hcv:(convert 41 9 (.slice (some ⟨wr.heap.size,0,none⟩) 1 1)).run prog (wr.alloc (.cells #[.int .u8 (x%256)] 5))=.ok (.string (S8 [b8 x])) (wr.alloc (.cells #[.int .u8 (x%256)] 5)):=anU wr [x];have gL:=ae (HS.out.grow (aQ wr (.cells #[.int .u8 (x%256)] 5) none));have av3:Hid ((tb++S8 [b8 x]).size=k+1):=by unfold Hid;rw[ByteArray.size_append,Ji.out];rfl
        have htz:tb.size<=10000000:=by rw[Ji.out];exact qo
        have hsx:(S8 [b8 x]).size=1:=by rw[aj6];rfl
        clear ng hxk dI gw hx HS VZ;go_wp2;go_roundw
        case rel=>exact⟨k+1,tb++S8 [b8 x],av3,(show k+1<=_ by omega),rfl,by go_num,gL⟩
        case measure=>simp[intOf];omega
       ·have hex:(ins.length=0/\True)\/∃l aI bI cI,a=some aI/\0<ins.length/\wr.cell? aI=some (.slice bI l cI)/\¬((k:Int)<(l:Nat)):=by
         rcases VZ with hz|⟨l,aI,bI,cI,ea,hx,yH,dI,ng⟩
         ·exact .inl ⟨hz,trivial⟩
         ·exact .inr ⟨l.length,aI,bI,cI,ea,yH,aG gw dI,fun h=>V0 ⟨l,aI,bI,cI,ea,hx,yH,dI,ng,by omega⟩⟩
        obtain⟨V4,V5,yx,hR⟩:=HS.out.P3 (i:=0) (p:=p) rfl;have e0:(Value.slice (some ⟨gp,0,none⟩) 1 zY)=.slice (some ⟨V4,0,none⟩) 1 V5:=yx;injection e0 with e1 _ e2;injection e1 with e1;injection e1 with e1;subst e1 e2;have c0:wr.cell? ⟨w.heap.size,0,none⟩=some (.slice (some ⟨gp,0,none⟩) 1 zY):=HS.out.L.cell 0;have HR:=ae hR;have HC:=ae (ahe HS.out (by omega) (p:=p) (List.mem_singleton.2 rfl) tb (by have:=Ji.out;omega));clear V0 hR yx gw HS VZ;rcases hex with⟨hz,ht⟩|⟨l,aI,bI,cI,ea,yH,dI,sP⟩
        all_goals
         try subst ea
         go_wp2_with(refine wpList_load_mid rfl 39 _ rfl gp 0 rfl [.pointer (some ⟨p.q,0,none⟩),.pointer (some ⟨p.gb,0,none⟩)] _ HR.out underlying39 rfl Tryz.Ia ?_);refine HC.out.mono ?_;rintro e w6⟨rfl,-,v1',v2',vk,nk',V6,DC⟩;obtain⟨V4,V5,yx,lN⟩:=DC.P3 (i:=0) (p:=p) rfl;have e0:(Value.slice (some ⟨gp,0,none⟩) 1 zY)=.slice (some ⟨V4,0,none⟩) 1 V5:=yx;injection e0 with e1 _ e2;injection e1 with e1;injection e1 with e1;subst e1 e2;obtain⟨V7,Ib,pQ,Ff⟩:=DC.lin;obtain⟨ar,cr,er⟩:=gP DC.kr;have er':vk=.slice ar V6.length cr:=er;subst er';have c0':w6.cell? ⟨w.heap.size,0,none⟩=some (.slice (some ⟨gp,0,none⟩) 1 zY):=DC.L.cell 0;have c6':w6.cell? ⟨w.heap.size,6,none⟩=some (.slice ar V6.length cr):=DC.L.cell 6;have GG:=DC.nr;have Lp:=ae DC;have HR6:=ae lN;have CD:=ae Ib;have Hb6:=ae Ff;have d0:w6.cell? ⟨gp,0,none⟩=some (.pointer (some ⟨p.q,0,none⟩)):=lN 0 _ rfl;have d1:w6.cell? ⟨gp,1,none⟩=some (.pointer (some ⟨p.gb,0,none⟩)):=lN 1 _ rfl;have DB:=ae (VV (Lp.out.grow (gE w6 none)) (by omega) (p:=p) (List.mem_singleton.2 rfl) ar V6.length cr V7 (CD.out.Z (gE w6 none)) (fun l hl=>by have:=Hb6.out l hl;omega) (by have:=GG;simp only at this;omega));clear DC lN yx Ib Ff er c0 HC HR;go_wp2_with fail;go_still_tail 11,(by kernel_rfl);show wpList _ _ _ _ _ (World.drew _);clear c0' c6' d0 d1;generalize w6.drew=w7 at *;go_wp2_with fail;refine DB.out.mono ?_;rintro e w8⟨rfl,-,ahm,ahn,av9,aho,awa,xi⟩;have HC8:=ae (ag5 xi (by omega));have fD:=ae xi.gz;clear xi DB Lp CD Hb6 HR6;go_wp2_with fail;refine HC8.out.mono ?_;rintro e w9⟨rfl,jX⟩;have jh:=ae (aC fD.out jX);clear jX HC8 fD;go_wp2;go_ret;exact⟨rfl,jh.out⟩
end Go.Proofs.YtcnhfffgbamonaaGreat
