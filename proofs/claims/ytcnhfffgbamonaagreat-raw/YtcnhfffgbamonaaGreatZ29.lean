import Derived.Test.YtcnhfffgbamonaaGreatZ28
set_option maxRecDepth 100000
set_option maxHeartbeats 6400000
namespace Go.Proofs.YtcnhfffgbamonaaGreat
open Go.Proofs.Tryz
open Go.RowKit
abbrev o4(k:Int)(iv:Value)(out:Int)(nv:Value):Array Value:=#[.int .i64 k,iv,.int .i64 out,nv]
theorem wP{w:World}{L T:Nat}{v0 v1 v2 v3:Value}(hL:aj w L T #[v0,v1,v2,v3]):w.cell? ⟨L,0,none⟩=some v0/\w.cell? ⟨L,1,none⟩=some v1/\w.cell? ⟨L,2,none⟩=some v2/\w.cell? ⟨L,3,none⟩=some v3:=
 ⟨hL.cell 0,hL.cell 1,hL.cell 2,hL.cell 3⟩
theorem KL{w:World}{L T:Nat}{cs:Array Value}(hL:aj w L T cs):w.frozen? ⟨L,0,none⟩=false/\w.frozen? ⟨L,1,none⟩=false/\w.frozen? ⟨L,2,none⟩=false/\w.frozen? ⟨L,3,none⟩=false:=
 ⟨hL.free 0,hL.free 1,hL.free 2,hL.free 3⟩
abbrev adP(w1:World)(G:Nat)(v0 v1 v2 v3:Value):World:=(((w1.setCell ⟨G,0,none⟩ v0).setCell ⟨G,1,none⟩ v1).setCell ⟨G,2,none⟩ v2).setCell ⟨G,3,none⟩ v3
theorem GA{w1:World}{G:Nat}{T:TypeId}{u0 u1 u2 u3:Value}(h:aj w1 G T #[u0,u1,u2,u3])(v0 v1 v2 v3:Value) :
  w1.grownBy (adP w1 G v0 v1 v2 v3) (some G)/\aj (adP w1 G v0 v1 v2 v3) G T #[v0,v1,v2,v3]:=by
 have hg:=aC (bD w1 G 0 v0) (aC (bD _ G 1 v1) (aC (bD _ G 2 v2) (bD _ G 3 v3)));exact⟨hg,(((h.set 0 v0).set 1 v1).set 2 v2).set 3 v3⟩
theorem GB{W:World}{G:Nat}{v0 v1 v2 v3 x y:Value}(hB:aj W G 110 #[v0,v1,v2,v3])(tmps:Array Value)(ht:tmps[2]?.getD undef=.pointer (some ⟨G,0,none⟩))(h3:tmps[3]?.getD undef=x)(h4:tmps[4]?.getD undef=y):(results Tryz.f68 tmps).run prog W=.ok (.tuple #[.agg #[v0,v1,v2,v3],x,y]) W:=by
 have q0:W.cell? ⟨G,0,none⟩=some v0:=hB.cell 0;have q1:W.cell? ⟨G,1,none⟩=some v1:=hB.cell 1;have q2:W.cell? ⟨G,2,none⟩=some v2:=hB.cell 2;have q3:W.cell? ⟨G,3,none⟩=some v3:=hB.cell 3;subst h3 h4;simp[results,Tryz.results68,go_sem,ht,q0,q1,q2,q3]
namespace R
theorem adQ{l:List UInt8}(h:tk 1 false l=none):op l=none:=by unfold op;rw[nx,h]
theorem arp{l r:List UInt8}{k:Int}(h:tk 1 false l=some (k,r))(hs:bT k=none):op l=none:=by unfold op;rw[nx,h];show(match bT k with|none=>none|some (n,Gq)=>_)=_;rw[hs]
theorem arq{l r:List UInt8}{k:Int}(h:tk 1 false l=some (k,r))(hs:bT k≠none):op l=match list r 1 false (dd k).toNat with
  | none=>none
  | some (ins,r2)=>match tk 1 false r2 with
   | none=>none
   | some (out,r3)=>match aW (iz k) r3 with
    | none=>none
    | some (v,r4)=>some (⟨k,ins,out,v⟩,r4):=by
 obtain⟨⟨n,Gq⟩,hn⟩:=Option.ne_none_iff_exists'.1 hs;unfold op iz dd;rw[nx,h];show(match bT k with|none=>none|some (n,Gq)=>_)=_;rw[hn];simp only[eC,ES];show nx (many (tk 1 false) n) (fun ins=>nx (tk 1 false) fun out=>nx (aW Gq) fun v=>ok (⟨k,ins,out,v⟩:Op)) r=_;simp only[nx]
 cases many (tk 1 false) n r with
 | none=>rfl
 | some p=>
  obtain⟨ins,r2⟩:=p
  dsimp only
  cases tk 1 false r2 with
  | none=>rfl
  | some p=>
   obtain⟨out,r3⟩:=p
   dsimp only
   cases aW Gq r3 with
   | none=>rfl
   | some p=>rfl
theorem ars{k:Int}(h:bT k=none):dd k = -1:=by unfold dd;rw[h]
end R
def tO(cs:List Char)(r5:List UInt8)(m7:Bool)(j:Nat)(vs:List Int)(r:List UInt8)(b:Bool):Prop:=
 (b=true->m7=true/\R.aW (cs.take j) r5=some (vs,r))/\(b=false->m7=false\/R.aW cs r5=none)
theorem tO.start(cs:List Char)(r5:List UInt8)(m7:Bool):tO cs r5 m7 0 [] r5 m7:=⟨fun h=>⟨h,rfl⟩,fun h=>.inl h⟩
theorem tO.zK{cs:List Char}{r5 r:List UInt8}{m7:Bool}{j:Nat}{vs:List Int}(h:tO cs r5 m7 j vs r true):m7=true/\R.aW (cs.take j) r5=some (vs,r):=h.1 rfl
theorem tO.no{cs:List Char}{r5 r:List UInt8}{m7:Bool}{j:Nat}{vs:List Int}(h:tO cs r5 m7 j vs r false):m7=false\/R.aW cs r5=none:=h.2 rfl
theorem tO.go{cs:List Char}{r5 r r8:List UInt8}{m7:Bool}{j:Nat}{vs:List Int}{c:Char}{v:Int}(h:tO cs r5 m7 j vs r true)(hc:cs[j]?=some c)(hn:R.cO c r=some (v,r8)):tO cs r5 m7 (j+1) (vs++[v]) r8 true:=by
 refine⟨fun _=>⟨h.zK.1,?_⟩,fun h=>aN h (by decide)⟩;rw[L8 hc];exact R.arl h.zK.2 hn
theorem tO.Dj{cs:List Char}{r5 r r8:List UInt8}{m7:Bool}{j:Nat}{vs us:List Int}{c:Char}(h:tO cs r5 m7 j vs r true)(hc:cs[j]?=some c)(hn:R.cO c r=none):tO cs r5 m7 (j+1) us r8 false:=by
 refine⟨fun h=>aN h (by decide),fun _=>.inr ?_⟩;have aJ:j<cs.length:=by
  rcases cE j cs.length with h' | h'
  ·exact h'
  ·rw[db h'] at hc;exact aN hc (by simp)
 have e:cs=cs.take j++c::cs.drop (j+1):=by
  have e:cs.drop j=c::cs.drop (j+1):=by
   rw[List.drop_eq_getElem_cons aJ];rw[aS aJ] at hc;rw[Option.some.inj hc]
  rw[<-e,List.take_append_drop]
 rw[e];exact R.arn h.zK.2 hn
theorem art(l:List UInt8)(w:World)(hl:l.length<=1000000) :
  Calls prog 68 #[.string (S9 l)] w fun e w'=>w.grownBy w' none /\
   ((∃(k:Int) (ao:Option Addr) (n cp:Nat) (out:Int) (dO:Option Addr) (n2 qD:Nat) (r:List UInt8),Hid (R.op l=none)/\e=.returned (.tuple #[.agg (o4 k (.slice ao n cp) out (.slice dO n2 qD)),.string (S9 r),.bool false])) \/
    ∃(o:R.Op) (ao:Option Addr) (cp:Nat) (dO:Option Addr) (qD:Nat) (r:List UInt8),Hid (R.op l=some (o,r))/\r.length<=l.length/\e=.returned (.tuple #[.agg (o4 o.af (.slice ao o.ins.length cp) o.out (.slice dO o.cO.length qD)),.string (S9 r),.bool true])/\aZ w' w.heap.size (.slice ao o.ins.length cp) o.ins/\aZ w' w.heap.size (.slice dO o.cO.length qD) o.cO):=by
 have I0:=ae (yf.start (T:=110) (z:=o4 0 (.slice none 0 0) 0 (.slice none 0 0)) w);go_enter func68,ntmps68;go_wp2_with fail;refine(yc l 1 false _ (by decide) (by decide) hl).mono ?_;rintro e w1⟨rfl,g1⟩;have vP:=R.ET l false;have pz:=(wK l 1 false).1;obtain⟨⟨k,r1,jz⟩,yg⟩:∃p,Hid (R.take l 1 false=p):=⟨_,rfl⟩;rw[yg.out] at vP pz ⊢;have bk:0<=k/\k<=255:=vP;have xV:r1.length<=l.length:=pz;have I1:=I0.out.gZ g1;obtain⟨d0,d1,d2,d3⟩:=wP I1.L;have Gu:=I1.L.free 0;have kS:=ae (I1.put 0 (.int .i64 k));clear g1 I1 I0 vP pz;go_wp2_with fail;refine(adO k _).mono ?_;rintro e w2⟨rfl,rfl⟩;clear d0 d1 d2 d3 Gu;obtain⟨w2,Hw2⟩:∃w2,Hid (w1.setCell ⟨w.heap.size+1,0,none⟩ (.int .i64 k)=w2):=⟨_,rfl⟩;rw[Hw2.out] at kS ⊢;obtain⟨d0,d1,d2,d3⟩:=wP (show aj w2 (w.heap.size+1) 110 #[.int .i64 k,.slice none 0 0,.int .i64 0,.slice none 0 0] from kS.out.L);obtain⟨g0,g1,g2,g3⟩:=wP kS.out.G;obtain⟨f0,f1,f2,f3⟩:=KL kS.out.G;by_cases fB:jz=false\/R.bT k=none
 ·have HN:=ae (show R.op l=none by
   rcases fB with rfl|hs
   ·exact R.adQ (R.qC yg.out)
   ·cases jz with
    | false=>exact R.adQ (R.qC yg.out)
    | true=>exact R.arp (R.sA yg.out) hs)
  have pY:jz=false\/(jz=true/\R.dd k = -1):=by
   rcases fB with rfl|hs
   ·exact .inl rfl
   ·cases jz with
    | false=>exact .inl rfl
    | true=>exact .inr ⟨rfl,R.ars hs⟩
  clear fB;rcases pY with rfl|⟨rfl,DP⟩
  ·go_wp2
   obtain⟨fY,g6⟩:=GA kS.out.G (.int .i64 k) (.slice none 0 0) (.int .i64 0) (.slice none 0 0);refine bodyPost_ret (GB g6 _ rfl rfl rfl) rfl ?_;exact⟨dF kS.out.g fY (bj _),.inl ⟨k,none,0,0,0,none,0,0,r1,HN.out,rfl⟩⟩
  ·rw[DP]
   clear DP;go_wp2;obtain⟨fY,g6⟩:=GA kS.out.G (.int .i64 k) (.slice none 0 0) (.int .i64 0) (.slice none 0 0);refine bodyPost_ret (GB g6 _ rfl rfl rfl) rfl ?_;exact⟨dF kS.out.g fY (bj _),.inl ⟨k,none,0,0,0,none,0,0,r1,HN.out,rfl⟩⟩
 ·have nQ:jz=true:=by cases jz with|true=>rfl|false=>exact aN (.inl rfl) fB
  subst nQ;have qj:R.bT k≠none:=fun h=>fB (.inr h);clear fB;obtain⟨⟨arv,adR⟩,pS,hsg⟩:=R.KK k qj;have HY:=ae (R.arq (R.sA yg.out) qj);have Hsg:=ae hsg;obtain⟨n,Hn⟩:∃n:Nat,Hid (R.dd k=(n:Int)):=⟨(R.dd k).toNat,by unfold Hid;omega⟩;rw[Hn.out,eC] at HY;rw[Hn.out] at arv adR ⊢;obtain⟨cs,oG⟩:∃cs,Hid (R.iz k=cs):=⟨_,rfl⟩;rw[oG.out] at HY Hsg pS ⊢;clear qj hsg;have BN:(n:Int)<=3:=adR;have IU:decide ((n:Int)<0)=false:=eE (by omega);go_wp2_with fail;refine(KD r1 n 1 false w2 (by decide) (by decide) (by omega) (by omega)).mono ?_;rintro e w3⟨DN,⟨r3,adU,hr3,rfl⟩|⟨a3,c3,ins,r3,qx,rfl,lh⟩⟩
  ·have HN:=ae (show R.op l=none by rw[HY.out,adU])
   have I3:=kS.out.gZ DN;clear d0 d1 d2 d3 g0 g1 g2 g3 f0 f1 f2 f3 HY;obtain⟨d0,d1,d2,d3⟩:=wP (show aj w3 (w.heap.size+1) 110 #[.int .i64 k,.slice none 0 0,.int .i64 0,.slice none 0 0] from I3.L);obtain⟨g0,g1,g2,g3⟩:=wP I3.G;obtain⟨f0,f1,f2,f3⟩:=KL I3.G;have mr:=ae I3;clear I3 DN adU kS;go_wp2;obtain⟨fY,g6⟩:=GA mr.out.G (.int .i64 k) (.slice none 0 0) (.int .i64 0) (.slice none 0 0);refine bodyPost_ret (GB g6 _ rfl rfl rfl) rfl ?_;exact⟨dF mr.out.g fY (bj _),.inl ⟨k,none,0,0,0,none,0,0,r3,HN.out,rfl⟩⟩
  ·have hir:=(Gp r1 1 false n ins r3 qx.out).2
   have I3:=kS.out.gZ DN;have eD:=kS.out.L.lt;clear d0 d1 d2 d3 g0 g1 g2 g3 f0 f1 f2 f3;obtain⟨d0,d1,d2,d3⟩:=wP (show aj w3 (w.heap.size+1) 110 #[.int .i64 k,.slice none 0 0,.int .i64 0,.slice none 0 0] from I3.L);have Gv:=I3.L.free 1;have mr:=ae (I3.put 1 (.slice a3 ins.length c3));have qX:=ae (lh.kept (bD w3 (w.heap.size+1) 1 (.slice a3 ins.length c3)) eD);have QC:w2.heap.size<=w3.heap.size:=DN.size;clear I3 DN kS lh;obtain⟨w4,Hw4⟩:∃w4,Hid (w3.setCell ⟨w.heap.size+1,1,none⟩ (.slice a3 ins.length c3)=w4):=⟨_,rfl⟩;rw[Hw4.out] at mr qX;go_wp2_with fail;rw[Hw4.out];refine(yc r3 1 false w4 (by decide) (by decide) (by omega)).mono ?_;rintro e w5⟨rfl,g5⟩;have T7:=R.ET r3 false;have J9:=(wK r3 1 false).1;obtain⟨⟨out,r5,m7⟩,uS⟩:∃p,Hid (R.take r3 1 false=p):=⟨_,rfl⟩;rw[uS.out] at T7 J9 ⊢;have bo:0<=out/\out<=255:=T7;have hr5:r5.length<=r3.length:=J9;have I5:=mr.out.gZ g5;clear d0 d1 d2 d3 Gv T7 J9;obtain⟨d0,d1,d2,d3⟩:=wP (show aj w5 (w.heap.size+1) 110 #[.int .i64 k,.slice a3 ins.length c3,.int .i64 0,.slice none 0 0] from I5.L);have Gw:=I5.L.free 2;have rU:=ae (I5.put 2 (.int .i64 out));have Co:=ae ((qX.out.Z g5).kept (bD w5 (w.heap.size+1) 2 (.int .i64 out)) eD);clear I5 g5 mr qX;obtain⟨w6,Hw6⟩:∃w6,Hid (w5.setCell ⟨w.heap.size+1,2,none⟩ (.int .i64 out)=w6):=⟨_,rfl⟩;rw[Hw6.out] at rU Co;have iC:=ae rU.out.G;have Bk:=ae rU.out.g;have CZ:=ae (show aj w6 (w.heap.size+1) 110 (o4 k (.slice a3 ins.length c3) out (.slice none 0 0)) from rU.out.L);have pQ:w.heap.size+1<w6.heap.size:=aj.lt CZ.out;obtain⟨i0,hi,cP,cQ,cZ⟩:=info_parts Tryz.oO;have KM:(S9 (cs.map R.pX)).size=cs.length:=by rw[Gn,jb]
   go_wp2;rw[Hw6.out];clear d0 d1 d2 d3 Gw rU;go_loopw[0,7,12] (fun s KN i wr=>∃(j:Nat) (vs:List Int) (r:List UInt8) (b:Bool) (av:Option Addr) (cv:Nat),Hid (j<=cs.length)/\i=.int .i64 j/\s=.string (S9 r)/\KN=.bool b/\Hid (r.length<=l.length)/\Hid (vs.length<=j)/\Hid (tO cs r5 m7 j vs r b)/\Hid (aj wr (w.heap.size+1) 110 (o4 k (.slice a3 ins.length c3) out (.slice av vs.length cv)))/\Hid (aZ wr w6.heap.size (.slice av vs.length cv) vs)/\w6.grownBy wr (some (w.heap.size+1))) (fun _ _ i _=>cs.length-(intOf i).toNat)
   case atStart=>exact⟨0,[],r5,m7,none,0,bK _,rfl,rfl,rfl,(by show r5.length<=l.length;omega),bj _,tO.start _ _ _,CZ.out,aZ.nil _ _,fZ _ _⟩
   case round=>
    obtain⟨j,vs,r,b,av,cv,Hj,rfl,rfl,rfl,Hr,uT,eJ,HB,HI,bO⟩:=hrel;obtain⟨d0,d1,d2,d3⟩:=wP (show aj wr (w.heap.size+1) 110 #[.int .i64 k,.slice a3 ins.length c3,.int .i64 out,.slice av vs.length cv] from HB.out);have Bj:=HB.out.free 3;have dh:=HB.out.lt;by_cases aJ:j<cs.length
    ·have dW:=ae aJ
     cases b with
     | false=>
      have HN:=ae (show R.op l=none by
       rw[HY.out,qx.out];rcases eJ.out.no with h|h
       ·subst h;dsimp only;rw[R.qC uS.out]
       ·dsimp only
        cases h5:m7 with
        | false=>rw[h5] at uS;rw[R.qC uS.out]
        | true=>rw[h5] at uS;rw[R.sA uS.out];dsimp only;rw[h])
      have HG:=ae (aj.kept iC.out bO (by simp));obtain⟨g0,g1,g2,g3⟩:=wP HG.out;obtain⟨f0,f1,f2,f3⟩:=KL HG.out;have T8:=ae (Co.out.kept bO eD);have KO:=ae (dF Bk.out bO (by omega));clear bO;go_wp2;obtain⟨fY,g6⟩:=GA HG.out (.int .i64 k) (.slice a3 ins.length c3) (.int .i64 out) (.slice av vs.length cv);refine bodyPost_ret (GB g6 _ rfl rfl rfl) rfl ?_;exact⟨dF KO.out fY (bj _),.inl ⟨k,a3,ins.length,c3,out,av,vs.length,cv,r,HN.out,rfl⟩⟩
     | true=>
      obtain⟨c,hc⟩:∃c,cs[j]?=some c:=⟨_,aS aJ⟩;have T9:=Hsg.out c (bU hc);have yi:j<(S9 (cs.map R.pX)).size:=by rw[KM];exact aJ
      have Hb:=ae (OU (cs.map R.pX) j yi (R.pX c) (by rw[dV,hc];rfl));have Hc:=ae hc;clear hc;rcases T9 with rfl|rfl|rfl|rfl
      ·have hb:((S9 (cs.map R.pX))[j]'yi).toNat=117:=by rw[Hb.out];rfl
       go_wp2_with fail;refine(yc r 1 false wr (by decide) (by decide) (by have:=Hr.out;omega)).mono ?_;rintro e w8⟨rfl,g8⟩;have gJ:=(wK r 1 false).1;have mZ:=R.KG r 1 false (by decide);obtain⟨⟨v,r8,EU⟩,rC⟩:∃p,Hid (R.take r 1 false=p):=⟨_,rfl⟩;rw[rC.out] at gJ mZ ⊢;have wQ:Hid (r8.length<=r.length):=gJ;have Ua:=ae mZ;have jy:=ae (HB.out.kept g8 (by simp));have iT:=ae (HI.out.Z g8);have fD:=ae (aC bO (pr g8));have Ub:w6.heap.size<=w8.heap.size:=fD.out.size;clear d0 d1 d2 d3 Bj dh g8 bO HB HI gJ mZ;have d3:w8.cell? ⟨w.heap.size+1,3,none⟩=some (.slice av vs.length cv):=jy.out.cell 3;have Uc:vs.length<=8:=by have:=uT.out;have:=dW.out;omega
       have Ud:j<8:=by have:=dW.out;omega
       cases EU with
       | false=>
        have lV:=ae (eJ.out.Dj (us:=vs++[v]) (r8:=r8) Hc.out (R.O9 rC.out));go_wp2_with (at_builtin;refine nD _ rfl _ _ 33 rfl w6.heap.size 3 i0 (.int .i64 0) 1 8 underlying33 hi cP cQ cZ rfl (by decide) _ _ _ rfl (lB iT.out _) ⟨w8.heap.size,0,none⟩ 1 1 [.int .i64 v] rfl rfl ?c1 ?c2 ?c3 ?c4 ?c5 ?_)
        case c1=>exact kb w8 3 #[.int .i64 v]
        case c2=>intro u hu;simp at hu;subst hu;rfl
        case c3=>unfold maxLen;omega
        case c4=>omega
        case c5=>simp;omega
        intro v' w9 dC cR _;have bq:w8.grownBy w9 (Value.slice av vs.length cv).ownBlock:=aC (aQ _ _ _) cR;have dR:=mJ iT.out;have fA:=jy.out.kept bq (by intro e;have:=dR _ e.symm;omega);have kV:w6.grownBy w9 (some (w.heap.size+1)):=l8 fD.out bq (fun g hg=>by have:=dR g hg;omega);have e4:w9.cell? ⟨w.heap.size+1,3,none⟩=some (.slice av vs.length cv):=fA.cell 3;have f4:=fA.free 3;obtain⟨eQ,eR,hv⟩:=gP dC;rw[hv] at dC ⊢;have kh:aZ w9 w6.heap.size (.slice eQ (vs++[v]).length eR) (vs++[v]):=by
         unfold aZ;simpa using dC
        have lD:=ae (kh.kept (bD w9 (w.heap.size+1) 3 (.slice eQ (vs.length+1) eR)) (by omega));have pe:=ae (fA.set 3 (.slice eQ (vs.length+1) eR));have jh:=ae (aC kV (bD w9 (w.heap.size+1) 3 (.slice eQ (vs.length+1) eR)));clear hv dC cR bq dR iT fD jy kh kV fA;go_wp2;go_roundw
        case rel=>
         refine⟨j+1,vs++[v],r8,false,eQ,eR,(by have:=dW.out;unfold Hid;omega),by go_num,rfl,rfl,(by have:=wQ.out;have:=Hr.out;unfold Hid;omega),(by have:=uT.out;unfold Hid;simp;omega),lV.out,ae ?_,ae ?_,jh.out⟩
         ·have e:=pe.out;simpa using e
         ·have e:=lD.out;simpa using e
        case measure=>have:=dW.out;simp[intOf];omega
       | true=>
        have lV:=ae (eJ.out.go Hc.out (R.O8 rC.out (fun h=>aN h.1 (by decide))));go_wp2_with (at_builtin;refine nD _ rfl _ _ 33 rfl w6.heap.size 3 i0 (.int .i64 0) 1 8 underlying33 hi cP cQ cZ rfl (by decide) _ _ _ rfl (lB iT.out _) ⟨w8.heap.size,0,none⟩ 1 1 [.int .i64 v] rfl rfl ?c1 ?c2 ?c3 ?c4 ?c5 ?_)
        case c1=>exact kb w8 3 #[.int .i64 v]
        case c2=>intro u hu;simp at hu;subst hu;rfl
        case c3=>unfold maxLen;omega
        case c4=>omega
        case c5=>simp;omega
        intro v' w9 dC cR _;have bq:w8.grownBy w9 (Value.slice av vs.length cv).ownBlock:=aC (aQ _ _ _) cR;have dR:=mJ iT.out;have fA:=jy.out.kept bq (by intro e;have:=dR _ e.symm;omega);have kV:w6.grownBy w9 (some (w.heap.size+1)):=l8 fD.out bq (fun g hg=>by have:=dR g hg;omega);have e4:w9.cell? ⟨w.heap.size+1,3,none⟩=some (.slice av vs.length cv):=fA.cell 3;have f4:=fA.free 3;obtain⟨eQ,eR,hv⟩:=gP dC;rw[hv] at dC ⊢;have kh:aZ w9 w6.heap.size (.slice eQ (vs++[v]).length eR) (vs++[v]):=by
         unfold aZ;simpa using dC
        have lD:=ae (kh.kept (bD w9 (w.heap.size+1) 3 (.slice eQ (vs.length+1) eR)) (by omega));have pe:=ae (fA.set 3 (.slice eQ (vs.length+1) eR));have jh:=ae (aC kV (bD w9 (w.heap.size+1) 3 (.slice eQ (vs.length+1) eR)));clear hv dC cR bq dR iT fD jy kh kV fA;go_wp2;go_roundw
        case rel=>
         refine⟨j+1,vs++[v],r8,true,eQ,eR,(by have:=dW.out;unfold Hid;omega),by go_num,rfl,rfl,(by have:=wQ.out;have:=Hr.out;unfold Hid;omega),(by have:=uT.out;unfold Hid;simp;omega),lV.out,ae ?_,ae ?_,jh.out⟩
         ·have e:=pe.out;simpa using e
         ·have e:=lD.out;simpa using e
        case measure=>have:=dW.out;simp[intOf];omega
      ·have hb:((S9 (cs.map R.pX))[j]'yi).toNat=115:=by rw[Hb.out];rfl
       go_wp2_with fail;refine(yc r 1 true wr (by decide) (by decide) (by have:=Hr.out;omega)).mono ?_;rintro e w8⟨rfl,g8⟩;have gJ:=(wK r 1 true).1;have mZ:=R.KG r 1 true (by decide);obtain⟨⟨v,r8,EU⟩,rC⟩:∃p,Hid (R.take r 1 true=p):=⟨_,rfl⟩;rw[rC.out] at gJ mZ ⊢;have wQ:Hid (r8.length<=r.length):=gJ;have Ua:=ae mZ;have jy:=ae (HB.out.kept g8 (by simp));have iT:=ae (HI.out.Z g8);have fD:=ae (aC bO (pr g8));have Ub:w6.heap.size<=w8.heap.size:=fD.out.size;clear d0 d1 d2 d3 Bj dh g8 bO HB HI gJ mZ;have d3:w8.cell? ⟨w.heap.size+1,3,none⟩=some (.slice av vs.length cv):=jy.out.cell 3;have Uc:vs.length<=8:=by have:=uT.out;have:=dW.out;omega
       have Ud:j<8:=by have:=dW.out;omega
       cases EU with
       | false=>
        have lV:=ae (eJ.out.Dj (us:=vs++[v]) (r8:=r8) Hc.out (R.O9 rC.out));go_wp2_with (at_builtin;refine nD _ rfl _ _ 33 rfl w6.heap.size 3 i0 (.int .i64 0) 1 8 underlying33 hi cP cQ cZ rfl (by decide) _ _ _ rfl (lB iT.out _) ⟨w8.heap.size,0,none⟩ 1 1 [.int .i64 v] rfl rfl ?c1 ?c2 ?c3 ?c4 ?c5 ?_)
        case c1=>exact kb w8 3 #[.int .i64 v]
        case c2=>intro u hu;simp at hu;subst hu;rfl
        case c3=>unfold maxLen;omega
        case c4=>omega
        case c5=>simp;omega
        intro v' w9 dC cR _;have bq:w8.grownBy w9 (Value.slice av vs.length cv).ownBlock:=aC (aQ _ _ _) cR;have dR:=mJ iT.out;have fA:=jy.out.kept bq (by intro e;have:=dR _ e.symm;omega);have kV:w6.grownBy w9 (some (w.heap.size+1)):=l8 fD.out bq (fun g hg=>by have:=dR g hg;omega);have e4:w9.cell? ⟨w.heap.size+1,3,none⟩=some (.slice av vs.length cv):=fA.cell 3;have f4:=fA.free 3;obtain⟨eQ,eR,hv⟩:=gP dC;rw[hv] at dC ⊢;have kh:aZ w9 w6.heap.size (.slice eQ (vs++[v]).length eR) (vs++[v]):=by
         unfold aZ;simpa using dC
        have lD:=ae (kh.kept (bD w9 (w.heap.size+1) 3 (.slice eQ (vs.length+1) eR)) (by omega));have pe:=ae (fA.set 3 (.slice eQ (vs.length+1) eR));have jh:=ae (aC kV (bD w9 (w.heap.size+1) 3 (.slice eQ (vs.length+1) eR)));clear hv dC cR bq dR iT fD jy kh kV fA;go_wp2;go_roundw
        case rel=>
         refine⟨j+1,vs++[v],r8,false,eQ,eR,(by have:=dW.out;unfold Hid;omega),by go_num,rfl,rfl,(by have:=wQ.out;have:=Hr.out;unfold Hid;omega),(by have:=uT.out;unfold Hid;simp;omega),lV.out,ae ?_,ae ?_,jh.out⟩
         ·have e:=pe.out;simpa using e
         ·have e:=lD.out;simpa using e
        case measure=>have:=dW.out;simp[intOf];omega
       | true=>
        have lV:=ae (eJ.out.go Hc.out (R.O8 rC.out (fun h=>aN h.1 (by decide))));go_wp2_with (at_builtin;refine nD _ rfl _ _ 33 rfl w6.heap.size 3 i0 (.int .i64 0) 1 8 underlying33 hi cP cQ cZ rfl (by decide) _ _ _ rfl (lB iT.out _) ⟨w8.heap.size,0,none⟩ 1 1 [.int .i64 v] rfl rfl ?c1 ?c2 ?c3 ?c4 ?c5 ?_)
        case c1=>exact kb w8 3 #[.int .i64 v]
        case c2=>intro u hu;simp at hu;subst hu;rfl
        case c3=>unfold maxLen;omega
        case c4=>omega
        case c5=>simp;omega
        intro v' w9 dC cR _;have bq:w8.grownBy w9 (Value.slice av vs.length cv).ownBlock:=aC (aQ _ _ _) cR;have dR:=mJ iT.out;have fA:=jy.out.kept bq (by intro e;have:=dR _ e.symm;omega);have kV:w6.grownBy w9 (some (w.heap.size+1)):=l8 fD.out bq (fun g hg=>by have:=dR g hg;omega);have e4:w9.cell? ⟨w.heap.size+1,3,none⟩=some (.slice av vs.length cv):=fA.cell 3;have f4:=fA.free 3;obtain⟨eQ,eR,hv⟩:=gP dC;rw[hv] at dC ⊢;have kh:aZ w9 w6.heap.size (.slice eQ (vs++[v]).length eR) (vs++[v]):=by
         unfold aZ;simpa using dC
        have lD:=ae (kh.kept (bD w9 (w.heap.size+1) 3 (.slice eQ (vs.length+1) eR)) (by omega));have pe:=ae (fA.set 3 (.slice eQ (vs.length+1) eR));have jh:=ae (aC kV (bD w9 (w.heap.size+1) 3 (.slice eQ (vs.length+1) eR)));clear hv dC cR bq dR iT fD jy kh kV fA;go_wp2;go_roundw
        case rel=>
         refine⟨j+1,vs++[v],r8,true,eQ,eR,(by have:=dW.out;unfold Hid;omega),by go_num,rfl,rfl,(by have:=wQ.out;have:=Hr.out;unfold Hid;omega),(by have:=uT.out;unfold Hid;simp;omega),lV.out,ae ?_,ae ?_,jh.out⟩
         ·have e:=pe.out;simpa using e
         ·have e:=lD.out;simpa using e
        case measure=>have:=dW.out;simp[intOf];omega
      ·have hb:((S9 (cs.map R.pX))[j]'yi).toNat=98:=by rw[Hb.out];rfl
       go_wp2_with fail;refine(yc r 1 false wr (by decide) (by decide) (by have:=Hr.out;omega)).mono ?_;rintro e w8⟨rfl,g8⟩;have gJ:=(wK r 1 false).1;have mZ:=R.KG r 1 false (by decide);obtain⟨⟨v,r8,EU⟩,rC⟩:∃p,Hid (R.take r 1 false=p):=⟨_,rfl⟩;rw[rC.out] at gJ mZ ⊢;have wQ:Hid (r8.length<=r.length):=gJ;have Ua:=ae mZ;have jy:=ae (HB.out.kept g8 (by simp));have iT:=ae (HI.out.Z g8);have fD:=ae (aC bO (pr g8));have Ub:w6.heap.size<=w8.heap.size:=fD.out.size;clear d0 d1 d2 d3 Bj dh g8 bO HB HI gJ mZ;have d3:w8.cell? ⟨w.heap.size+1,3,none⟩=some (.slice av vs.length cv):=jy.out.cell 3;have Uc:vs.length<=8:=by have:=uT.out;have:=dW.out;omega
       have Ud:j<8:=by have:=dW.out;omega
       cases EU with
       | false=>
        have lV:=ae (eJ.out.Dj (us:=vs++[v]) (r8:=r8) Hc.out (R.O9 rC.out));go_wp2_with (at_builtin;refine nD _ rfl _ _ 33 rfl w6.heap.size 3 i0 (.int .i64 0) 1 8 underlying33 hi cP cQ cZ rfl (by decide) _ _ _ rfl (lB iT.out _) ⟨w8.heap.size,0,none⟩ 1 1 [.int .i64 v] rfl rfl ?c1 ?c2 ?c3 ?c4 ?c5 ?_)
        case c1=>exact kb w8 3 #[.int .i64 v]
        case c2=>intro u hu;simp at hu;subst hu;rfl
        case c3=>unfold maxLen;omega
        case c4=>omega
        case c5=>simp;omega
        intro v' w9 dC cR _;have bq:w8.grownBy w9 (Value.slice av vs.length cv).ownBlock:=aC (aQ _ _ _) cR;have dR:=mJ iT.out;have fA:=jy.out.kept bq (by intro e;have:=dR _ e.symm;omega);have kV:w6.grownBy w9 (some (w.heap.size+1)):=l8 fD.out bq (fun g hg=>by have:=dR g hg;omega);have e4:w9.cell? ⟨w.heap.size+1,3,none⟩=some (.slice av vs.length cv):=fA.cell 3;have f4:=fA.free 3;obtain⟨eQ,eR,hv⟩:=gP dC;rw[hv] at dC ⊢;have kh:aZ w9 w6.heap.size (.slice eQ (vs++[v]).length eR) (vs++[v]):=by
         unfold aZ;simpa using dC
        have lD:=ae (kh.kept (bD w9 (w.heap.size+1) 3 (.slice eQ (vs.length+1) eR)) (by omega));have pe:=ae (fA.set 3 (.slice eQ (vs.length+1) eR));have jh:=ae (aC kV (bD w9 (w.heap.size+1) 3 (.slice eQ (vs.length+1) eR)));clear hv dC cR bq dR iT fD jy kh kV fA;go_wp2;go_roundw
        case rel=>
         refine⟨j+1,vs++[v],r8,false,eQ,eR,(by have:=dW.out;unfold Hid;omega),by go_num,rfl,rfl,(by have:=wQ.out;have:=Hr.out;unfold Hid;omega),(by have:=uT.out;unfold Hid;simp;omega),lV.out,ae ?_,ae ?_,jh.out⟩
         ·have e:=pe.out;simpa using e
         ·have e:=lD.out;simpa using e
        case measure=>have:=dW.out;simp[intOf];omega
       | true=>
        by_cases EV:v<2
        ·have arw:decide (v<2)=true:=eG EV
         have Ue:=ae EV;have lV:=ae (eJ.out.go Hc.out (R.O8 rC.out (fun h=>h.2 Ue.out)));go_wp2_with (at_builtin;refine nD _ rfl _ _ 33 rfl w6.heap.size 3 i0 (.int .i64 0) 1 8 underlying33 hi cP cQ cZ rfl (by decide) _ _ _ rfl (lB iT.out _) ⟨w8.heap.size,0,none⟩ 1 1 [.int .i64 v] rfl rfl ?c1 ?c2 ?c3 ?c4 ?c5 ?_)
         case c1=>exact kb w8 3 #[.int .i64 v]
         case c2=>intro u hu;simp at hu;subst hu;rfl
         case c3=>unfold maxLen;omega
         case c4=>omega
         case c5=>simp;omega
         intro v' w9 dC cR _;have bq:w8.grownBy w9 (Value.slice av vs.length cv).ownBlock:=aC (aQ _ _ _) cR;have dR:=mJ iT.out;have fA:=jy.out.kept bq (by intro e;have:=dR _ e.symm;omega);have kV:w6.grownBy w9 (some (w.heap.size+1)):=l8 fD.out bq (fun g hg=>by have:=dR g hg;omega);have e4:w9.cell? ⟨w.heap.size+1,3,none⟩=some (.slice av vs.length cv):=fA.cell 3;have f4:=fA.free 3;obtain⟨eQ,eR,hv⟩:=gP dC;rw[hv] at dC ⊢;have kh:aZ w9 w6.heap.size (.slice eQ (vs++[v]).length eR) (vs++[v]):=by
          unfold aZ;simpa using dC
         have lD:=ae (kh.kept (bD w9 (w.heap.size+1) 3 (.slice eQ (vs.length+1) eR)) (by omega));have pe:=ae (fA.set 3 (.slice eQ (vs.length+1) eR));have jh:=ae (aC kV (bD w9 (w.heap.size+1) 3 (.slice eQ (vs.length+1) eR)));clear hv dC cR bq dR iT fD jy kh kV fA;go_wp2;go_roundw
         case rel=>
          refine⟨j+1,vs++[v],r8,true,eQ,eR,(by have:=dW.out;unfold Hid;omega),by go_num,rfl,rfl,(by have:=wQ.out;have:=Hr.out;unfold Hid;omega),(by have:=uT.out;unfold Hid;simp;omega),lV.out,ae ?_,ae ?_,jh.out⟩
          ·have e:=pe.out;simpa using e
          ·have e:=lD.out;simpa using e
         case measure=>have:=dW.out;simp[intOf];omega
        ·have arw:decide (v<2)=false:=eE EV
         have Ue:=ae EV;have lV:=ae (eJ.out.Dj (us:=vs++[v]) (r8:=r8) Hc.out (R.aro rC.out ⟨rfl,Ue.out⟩));go_wp2_with (at_builtin;refine nD _ rfl _ _ 33 rfl w6.heap.size 3 i0 (.int .i64 0) 1 8 underlying33 hi cP cQ cZ rfl (by decide) _ _ _ rfl (lB iT.out _) ⟨w8.heap.size,0,none⟩ 1 1 [.int .i64 v] rfl rfl ?c1 ?c2 ?c3 ?c4 ?c5 ?_)
         case c1=>exact kb w8 3 #[.int .i64 v]
         case c2=>intro u hu;simp at hu;subst hu;rfl
         case c3=>unfold maxLen;omega
         case c4=>omega
         case c5=>simp;omega
         intro v' w9 dC cR _;have bq:w8.grownBy w9 (Value.slice av vs.length cv).ownBlock:=aC (aQ _ _ _) cR;have dR:=mJ iT.out;have fA:=jy.out.kept bq (by intro e;have:=dR _ e.symm;omega);have kV:w6.grownBy w9 (some (w.heap.size+1)):=l8 fD.out bq (fun g hg=>by have:=dR g hg;omega);have e4:w9.cell? ⟨w.heap.size+1,3,none⟩=some (.slice av vs.length cv):=fA.cell 3;have f4:=fA.free 3;obtain⟨eQ,eR,hv⟩:=gP dC;rw[hv] at dC ⊢;have kh:aZ w9 w6.heap.size (.slice eQ (vs++[v]).length eR) (vs++[v]):=by
          unfold aZ;simpa using dC
         have lD:=ae (kh.kept (bD w9 (w.heap.size+1) 3 (.slice eQ (vs.length+1) eR)) (by omega));have pe:=ae (fA.set 3 (.slice eQ (vs.length+1) eR));have jh:=ae (aC kV (bD w9 (w.heap.size+1) 3 (.slice eQ (vs.length+1) eR)));clear hv dC cR bq dR iT fD jy kh kV fA;go_wp2;go_roundw
         case rel=>
          refine⟨j+1,vs++[v],r8,false,eQ,eR,(by have:=dW.out;unfold Hid;omega),by go_num,rfl,rfl,(by have:=wQ.out;have:=Hr.out;unfold Hid;omega),(by have:=uT.out;unfold Hid;simp;omega),lV.out,ae ?_,ae ?_,jh.out⟩
          ·have e:=pe.out;simpa using e
          ·have e:=lD.out;simpa using e
         case measure=>have:=dW.out;simp[intOf];omega
      ·have hb:((S9 (cs.map R.pX))[j]'yi).toNat=119:=by rw[Hb.out];rfl
       go_wp2_with fail;refine(yc r 4 true wr (by decide) (by decide) (by have:=Hr.out;omega)).mono ?_;rintro e w8⟨rfl,g8⟩;have gJ:=(wK r 4 true).1;have mZ:=R.KG r 4 true (by decide);obtain⟨⟨v,r8,EU⟩,rC⟩:∃p,Hid (R.take r 4 true=p):=⟨_,rfl⟩;rw[rC.out] at gJ mZ ⊢;have wQ:Hid (r8.length<=r.length):=gJ;have Ua:=ae mZ;have jy:=ae (HB.out.kept g8 (by simp));have iT:=ae (HI.out.Z g8);have fD:=ae (aC bO (pr g8));have Ub:w6.heap.size<=w8.heap.size:=fD.out.size;clear d0 d1 d2 d3 Bj dh g8 bO HB HI gJ mZ;have d3:w8.cell? ⟨w.heap.size+1,3,none⟩=some (.slice av vs.length cv):=jy.out.cell 3;have Uc:vs.length<=8:=by have:=uT.out;have:=dW.out;omega
       have Ud:j<8:=by have:=dW.out;omega
       cases EU with
       | false=>
        have lV:=ae (eJ.out.Dj (us:=vs++[v]) (r8:=r8) Hc.out (R.O9 rC.out));go_wp2_with (at_builtin;refine nD _ rfl _ _ 33 rfl w6.heap.size 3 i0 (.int .i64 0) 1 8 underlying33 hi cP cQ cZ rfl (by decide) _ _ _ rfl (lB iT.out _) ⟨w8.heap.size,0,none⟩ 1 1 [.int .i64 v] rfl rfl ?c1 ?c2 ?c3 ?c4 ?c5 ?_)
        case c1=>exact kb w8 3 #[.int .i64 v]
        case c2=>intro u hu;simp at hu;subst hu;rfl
        case c3=>unfold maxLen;omega
        case c4=>omega
        case c5=>simp;omega
        intro v' w9 dC cR _;have bq:w8.grownBy w9 (Value.slice av vs.length cv).ownBlock:=aC (aQ _ _ _) cR;have dR:=mJ iT.out;have fA:=jy.out.kept bq (by intro e;have:=dR _ e.symm;omega);have kV:w6.grownBy w9 (some (w.heap.size+1)):=l8 fD.out bq (fun g hg=>by have:=dR g hg;omega);have e4:w9.cell? ⟨w.heap.size+1,3,none⟩=some (.slice av vs.length cv):=fA.cell 3;have f4:=fA.free 3;obtain⟨eQ,eR,hv⟩:=gP dC;rw[hv] at dC ⊢;have kh:aZ w9 w6.heap.size (.slice eQ (vs++[v]).length eR) (vs++[v]):=by
         unfold aZ;simpa using dC
        have lD:=ae (kh.kept (bD w9 (w.heap.size+1) 3 (.slice eQ (vs.length+1) eR)) (by omega));have pe:=ae (fA.set 3 (.slice eQ (vs.length+1) eR));have jh:=ae (aC kV (bD w9 (w.heap.size+1) 3 (.slice eQ (vs.length+1) eR)));clear hv dC cR bq dR iT fD jy kh kV fA;go_wp2;go_roundw
        case rel=>
         refine⟨j+1,vs++[v],r8,false,eQ,eR,(by have:=dW.out;unfold Hid;omega),by go_num,rfl,rfl,(by have:=wQ.out;have:=Hr.out;unfold Hid;omega),(by have:=uT.out;unfold Hid;simp;omega),lV.out,ae ?_,ae ?_,jh.out⟩
         ·have e:=pe.out;simpa using e
         ·have e:=lD.out;simpa using e
        case measure=>have:=dW.out;simp[intOf];omega
       | true=>
        have lV:=ae (eJ.out.go Hc.out (R.O8 rC.out (fun h=>aN h.1 (by decide))));go_wp2_with (at_builtin;refine nD _ rfl _ _ 33 rfl w6.heap.size 3 i0 (.int .i64 0) 1 8 underlying33 hi cP cQ cZ rfl (by decide) _ _ _ rfl (lB iT.out _) ⟨w8.heap.size,0,none⟩ 1 1 [.int .i64 v] rfl rfl ?c1 ?c2 ?c3 ?c4 ?c5 ?_)
        case c1=>exact kb w8 3 #[.int .i64 v]
        case c2=>intro u hu;simp at hu;subst hu;rfl
        case c3=>unfold maxLen;omega
        case c4=>omega
        case c5=>simp;omega
        intro v' w9 dC cR _;have bq:w8.grownBy w9 (Value.slice av vs.length cv).ownBlock:=aC (aQ _ _ _) cR;have dR:=mJ iT.out;have fA:=jy.out.kept bq (by intro e;have:=dR _ e.symm;omega);have kV:w6.grownBy w9 (some (w.heap.size+1)):=l8 fD.out bq (fun g hg=>by have:=dR g hg;omega);have e4:w9.cell? ⟨w.heap.size+1,3,none⟩=some (.slice av vs.length cv):=fA.cell 3;have f4:=fA.free 3;obtain⟨eQ,eR,hv⟩:=gP dC;rw[hv] at dC ⊢;have kh:aZ w9 w6.heap.size (.slice eQ (vs++[v]).length eR) (vs++[v]):=by
         unfold aZ;simpa using dC
        have lD:=ae (kh.kept (bD w9 (w.heap.size+1) 3 (.slice eQ (vs.length+1) eR)) (by omega));have pe:=ae (fA.set 3 (.slice eQ (vs.length+1) eR));have jh:=ae (aC kV (bD w9 (w.heap.size+1) 3 (.slice eQ (vs.length+1) eR)));clear hv dC cR bq dR iT fD jy kh kV fA;go_wp2;go_roundw
        case rel=>
         refine⟨j+1,vs++[v],r8,true,eQ,eR,(by have:=dW.out;unfold Hid;omega),by go_num,rfl,rfl,(by have:=wQ.out;have:=Hr.out;unfold Hid;omega),(by have:=uT.out;unfold Hid;simp;omega),lV.out,ae ?_,ae ?_,jh.out⟩
         ·have e:=pe.out;simpa using e
         ·have e:=lD.out;simpa using e
        case measure=>have:=dW.out;simp[intOf];omega
    ·have ko:j=cs.length:=by have:=Hj.out;omega
     subst ko;have ZY:decide ((cs.length:Int)<(cs.length:Int))=false:=eE (by omega)
     cases b with
     | false=>
      have HN:=ae (show R.op l=none by
       rw[HY.out,qx.out];rcases eJ.out.no with h|h
       ·subst h;dsimp only;rw[R.qC uS.out]
       ·dsimp only
        cases h5:m7 with
        | false=>rw[h5] at uS;rw[R.qC uS.out]
        | true=>rw[h5] at uS;rw[R.sA uS.out];dsimp only;rw[h])
      have HG:=ae (aj.kept iC.out bO (by simp));obtain⟨g0,g1,g2,g3⟩:=wP HG.out;obtain⟨f0,f1,f2,f3⟩:=KL HG.out;have T8:=ae (Co.out.kept bO eD);have KO:=ae (dF Bk.out bO (by omega));clear bO;go_wp2;obtain⟨fY,g6⟩:=GA HG.out (.int .i64 k) (.slice a3 ins.length c3) (.int .i64 out) (.slice av vs.length cv);refine bodyPost_ret (GB g6 _ rfl rfl rfl) rfl ?_;exact⟨dF KO.out fY (bj _),.inl ⟨k,a3,ins.length,c3,out,av,vs.length,cv,r,HN.out,rfl⟩⟩
     | true=>
      have HN:=ae (show R.op l=some (⟨k,ins,out,vs⟩,r) by
       obtain⟨h5,hy⟩:=eJ.out.zK;rw[h5] at uS;rw[HY.out,qx.out]
       dsimp only
       rw[R.sA uS.out]
       dsimp only
       rw[jm] at hy;rw[hy])
      have HG:=ae (aj.kept iC.out bO (by simp));obtain⟨g0,g1,g2,g3⟩:=wP HG.out;obtain⟨f0,f1,f2,f3⟩:=KL HG.out;have T8:=ae (Co.out.kept bO eD);have KO:=ae (dF Bk.out bO (by omega));clear bO;go_wp2;obtain⟨fY,g6⟩:=GA HG.out (.int .i64 k) (.slice a3 ins.length c3) (.int .i64 out) (.slice av vs.length cv);refine bodyPost_ret (GB g6 _ rfl rfl rfl) rfl ?_;refine⟨dF KO.out fY (bj _),.inr ⟨⟨k,ins,out,vs⟩,a3,c3,av,cv,r,HN.out,Hr.out,rfl,?_,?_⟩⟩
      ·exact(T8.out.kept fY (by omega)).mono (by omega)
      ·exact(HI.out.kept fY (by omega)).mono (by omega)
end Go.Proofs.YtcnhfffgbamonaaGreat
