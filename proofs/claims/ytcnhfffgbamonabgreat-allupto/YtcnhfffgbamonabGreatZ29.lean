import Derived.Test.YtcnhfffgbamonabGreatZ28
set_option maxRecDepth 100000
set_option maxHeartbeats 6400000
namespace Go.Proofs.YtcnhfffgbamonabGreat
open Go.Proofs.Tryz
open Go.RowKit
abbrev o4(k:Int)(iv:Value)(out:Int)(nv:Value):Array Value:=#[.int .i64 k,iv,.int .i64 out,nv]
theorem wu{w:World}{L T:Nat}{v0 v1 v2 v3:Value}(hL:aj w L T #[v0,v1,v2,v3]):w.cell? ⟨L,0,none⟩=some v0/\w.cell? ⟨L,1,none⟩=some v1/\w.cell? ⟨L,2,none⟩=some v2/\w.cell? ⟨L,3,none⟩=some v3:=
 ⟨hL.cell 0,hL.cell 1,hL.cell 2,hL.cell 3⟩
theorem Kj{w:World}{L T:Nat}{cs:Array Value}(hL:aj w L T cs):w.frozen? ⟨L,0,none⟩=false/\w.frozen? ⟨L,1,none⟩=false/\w.frozen? ⟨L,2,none⟩=false/\w.frozen? ⟨L,3,none⟩=false:=
 ⟨hL.free 0,hL.free 1,hL.free 2,hL.free 3⟩
abbrev acT(w1:World)(G:Nat)(v0 v1 v2 v3:Value):World:=(((w1.setCell ⟨G,0,none⟩ v0).setCell ⟨G,1,none⟩ v1).setCell ⟨G,2,none⟩ v2).setCell ⟨G,3,none⟩ v3
theorem F0{w1:World}{G:Nat}{T:TypeId}{u0 u1 u2 u3:Value}(h:aj w1 G T #[u0,u1,u2,u3])(v0 v1 v2 v3:Value) :
  w1.grownBy (acT w1 G v0 v1 v2 v3) (some G)/\aj (acT w1 G v0 v1 v2 v3) G T #[v0,v1,v2,v3]:=by
 have hg:=aC (bD w1 G 0 v0) (aC (bD _ G 1 v1) (aC (bD _ G 2 v2) (bD _ G 3 v3)));exact⟨hg,(((h.set 0 v0).set 1 v1).set 2 v2).set 3 v3⟩
theorem F6{W:World}{G:Nat}{v0 v1 v2 v3 x y:Value}(hB:aj W G 172 #[v0,v1,v2,v3])(tmps:Array Value)(ht:tmps[2]?.getD undef=.pointer (some ⟨G,0,none⟩))(h3:tmps[3]?.getD undef=x)(h4:tmps[4]?.getD undef=y):(results Tryz.f111 tmps).run prog W=.ok (.tuple #[.agg #[v0,v1,v2,v3],x,y]) W:=by
 have q0:W.cell? ⟨G,0,none⟩=some v0:=hB.cell 0;have q1:W.cell? ⟨G,1,none⟩=some v1:=hB.cell 1;have q2:W.cell? ⟨G,2,none⟩=some v2:=hB.cell 2;have q3:W.cell? ⟨G,3,none⟩=some v3:=hB.cell 3;subst h3 h4;simp[results,Tryz.results111,go_sem,ht,q0,q1,q2,q3]
namespace R
theorem acU{l:List UInt8}(h:tk 1 false l=none):op l=none:=by unfold op;rw[nx,h]
theorem aqk{l r:List UInt8}{k:Int}(h:tk 1 false l=some (k,r))(hs:bT k=none):op l=none:=by unfold op;rw[nx,h];show(match bT k with|none=>none|some (n,FP)=>_)=_;rw[hs]
theorem aql{l r:List UInt8}{k:Int}(h:tk 1 false l=some (k,r))(hs:bT k≠none):op l=match list r 1 false (cY k).toNat with
  | none=>none
  | some (ins,r2)=>match tk 1 false r2 with
   | none=>none
   | some (out,r3)=>match aW (iz k) r3 with
    | none=>none
    | some (v,r4)=>some (⟨k,ins,out,v⟩,r4):=by
 obtain⟨⟨n,FP⟩,hn⟩:=Option.ne_none_iff_exists'.1 hs;unfold op iz cY;rw[nx,h];show(match bT k with|none=>none|some (n,FP)=>_)=_;rw[hn];simp only[ey,Ew];show nx (many (tk 1 false) n) (fun ins=>nx (tk 1 false) fun out=>nx (aW FP) fun v=>ok (⟨k,ins,out,v⟩:Op)) r=_;simp only[nx]
 cases many (tk 1 false) n r with
 | none=>rfl
 | some p=>
  obtain⟨ins,r2⟩:=p
  dsimp only
  cases tk 1 false r2 with
  | none=>rfl
  | some p=>
   obtain⟨out,r3⟩:=p
   dsimp only
   cases aW FP r3 with
   | none=>rfl
   | some p=>rfl
theorem aqm{k:Int}(h:bT k=none):cY k = -1:=by unfold cY;rw[h]
end R
def tB(cs:List Char)(r5:List UInt8)(mX:Bool)(j:Nat)(vs:List Int)(r:List UInt8)(b:Bool):Prop:=
 (b=true->mX=true/\R.aW (cs.take j) r5=some (vs,r))/\(b=false->mX=false\/R.aW cs r5=none)
theorem tB.start(cs:List Char)(r5:List UInt8)(mX:Bool):tB cs r5 mX 0 [] r5 mX:=⟨fun h=>⟨h,rfl⟩,fun h=>.inl h⟩
theorem tB.zm{cs:List Char}{r5 r:List UInt8}{mX:Bool}{j:Nat}{vs:List Int}(h:tB cs r5 mX j vs r true):mX=true/\R.aW (cs.take j) r5=some (vs,r):=h.1 rfl
theorem tB.no{cs:List Char}{r5 r:List UInt8}{mX:Bool}{j:Nat}{vs:List Int}(h:tB cs r5 mX j vs r false):mX=false\/R.aW cs r5=none:=h.2 rfl
theorem tB.go{cs:List Char}{r5 r r8:List UInt8}{mX:Bool}{j:Nat}{vs:List Int}{c:Char}{v:Int}(h:tB cs r5 mX j vs r true)(hc:cs[j]?=some c)(hn:R.cO c r=some (v,r8)):tB cs r5 mX (j+1) (vs++[v]) r8 true:=by
 refine⟨fun _=>⟨h.zm.1,?_⟩,fun h=>aN h (by decide)⟩;rw[Lx hc];exact R.aqh h.zm.2 hn
theorem tB.CX{cs:List Char}{r5 r r8:List UInt8}{mX:Bool}{j:Nat}{vs us:List Int}{c:Char}(h:tB cs r5 mX j vs r true)(hc:cs[j]?=some c)(hn:R.cO c r=none):tB cs r5 mX (j+1) us r8 false:=by
 refine⟨fun h=>aN h (by decide),fun _=>.inr ?_⟩;have aK:j<cs.length:=by
  rcases cF j cs.length with h' | h'
  ·exact h'
  ·rw[cX h'] at hc;exact aN hc (by simp)
 have e:cs=cs.take j++c::cs.drop (j+1):=by
  have e:cs.drop j=c::cs.drop (j+1):=by
   rw[List.drop_eq_getElem_cons aK];rw[aT aK] at hc;rw[Option.some.inj hc]
  rw[<-e,List.take_append_drop]
 rw[e];exact R.aqi h.zm.2 hn
theorem aqn(l:List UInt8)(w:World)(hl:l.length<=1000000) :
  Calls prog 111 #[.string (S9 l)] w fun e w'=>w.grownBy w' none /\
   ((∃(k:Int) (ao:Option Addr) (n cp:Nat) (out:Int) (dO:Option Addr) (n2 qq:Nat) (r:List UInt8),Hid (R.op l=none)/\e=.returned (.tuple #[.agg (o4 k (.slice ao n cp) out (.slice dO n2 qq)),.string (S9 r),.bool false])) \/
    ∃(o:R.Op) (ao:Option Addr) (cp:Nat) (dO:Option Addr) (qq:Nat) (r:List UInt8),Hid (R.op l=some (o,r))/\r.length<=l.length/\e=.returned (.tuple #[.agg (o4 o.af (.slice ao o.ins.length cp) o.out (.slice dO o.cO.length qq)),.string (S9 r),.bool true])/\aZ w' w.heap.size (.slice ao o.ins.length cp) o.ins/\aZ w' w.heap.size (.slice dO o.cO.length qq) o.cO):=by
 have I0:=ae (xQ.start (T:=172) (z:=o4 0 (.slice none 0 0) 0 (.slice none 0 0)) w);go_enter func111,ntmps111;go_wp2_with fail;refine(xN l 1 false _ (by decide) (by decide) hl).mono ?_;rintro e w1⟨rfl,g1⟩;have vB:=R.Ey l false;have qH:=(vY l 1 false).1;obtain⟨⟨k,r1,ju⟩,xR⟩:∃p,Hid (R.take l 1 false=p):=⟨_,rfl⟩;rw[xR.out] at vB qH ⊢;have bk:0<=k/\k<=255:=vB;have xE:r1.length<=l.length:=qH;have I1:=I0.out.gV g1;obtain⟨d0,d1,d2,d3⟩:=wu I1.L;have FT:=I1.L.free 0;have kP:=ae (I1.put 0 (.int .i64 k));clear g1 I1 I0 vB qH;go_wp2_with fail;refine(acS k _).mono ?_;rintro e w2⟨rfl,rfl⟩;clear d0 d1 d2 d3 FT;obtain⟨w2,Hw2⟩:∃w2,Hid (w1.setCell ⟨w.heap.size+1,0,none⟩ (.int .i64 k)=w2):=⟨_,rfl⟩;rw[Hw2.out] at kP ⊢;obtain⟨d0,d1,d2,d3⟩:=wu (show aj w2 (w.heap.size+1) 172 #[.int .i64 k,.slice none 0 0,.int .i64 0,.slice none 0 0] from kP.out.L);obtain⟨g0,g1,g2,g3⟩:=wu kP.out.G;obtain⟨f0,f1,f2,f3⟩:=Kj kP.out.G;by_cases fy:ju=false\/R.bT k=none
 ·have HN:=ae (show R.op l=none by
   rcases fy with rfl|hs
   ·exact R.acU (R.qo xR.out)
   ·cases ju with
    | false=>exact R.acU (R.qo xR.out)
    | true=>exact R.aqk (R.rY xR.out) hs)
  have pO:ju=false\/(ju=true/\R.cY k = -1):=by
   rcases fy with rfl|hs
   ·exact .inl rfl
   ·cases ju with
    | false=>exact .inl rfl
    | true=>exact .inr ⟨rfl,R.aqm hs⟩
  clear fy;rcases pO with rfl|⟨rfl,DB⟩
  ·go_wp2
   obtain⟨fV,gX⟩:=F0 kP.out.G (.int .i64 k) (.slice none 0 0) (.int .i64 0) (.slice none 0 0);refine bodyPost_ret (F6 gX _ rfl rfl rfl) rfl ?_;exact⟨dF kP.out.g fV (bj _),.inl ⟨k,none,0,0,0,none,0,0,r1,HN.out,rfl⟩⟩
  ·rw[DB]
   clear DB;go_wp2;obtain⟨fV,gX⟩:=F0 kP.out.G (.int .i64 k) (.slice none 0 0) (.int .i64 0) (.slice none 0 0);refine bodyPost_ret (F6 gX _ rfl rfl rfl) rfl ?_;exact⟨dF kP.out.g fV (bj _),.inl ⟨k,none,0,0,0,none,0,0,r1,HN.out,rfl⟩⟩
 ·have vZ:ju=true:=by cases ju with|true=>rfl|false=>exact aN (.inl rfl) fy
  subst vZ;have pW:R.bT k≠none:=fun h=>fy (.inr h);clear fy;obtain⟨⟨aqp,acV⟩,pI,hsg⟩:=R.Ki k pW;have HY:=ae (R.aql (R.rY xR.out) pW);have Hsg:=ae hsg;obtain⟨n,Hn⟩:∃n:Nat,Hid (R.cY k=(n:Int)):=⟨(R.cY k).toNat,by unfold Hid;omega⟩;rw[Hn.out,ey] at HY;rw[Hn.out] at aqp acV ⊢;obtain⟨cs,ox⟩:∃cs,Hid (R.iz k=cs):=⟨_,rfl⟩;rw[ox.out] at HY Hsg pI ⊢;clear pW hsg;have By:(n:Int)<=3:=acV;have Is:decide ((n:Int)<0)=false:=eD (by omega);go_wp2_with fail;refine(Kb r1 n 1 false w2 (by decide) (by decide) (by omega) (by omega)).mono ?_;rintro e w3⟨Dz,⟨r3,acY,hr3,rfl⟩|⟨a3,c3,ins,r3,qg,rfl,kY⟩⟩
  ·have HN:=ae (show R.op l=none by rw[HY.out,acY])
   have I3:=kP.out.gV Dz;clear d0 d1 d2 d3 g0 g1 g2 g3 f0 f1 f2 f3 HY;obtain⟨d0,d1,d2,d3⟩:=wu (show aj w3 (w.heap.size+1) 172 #[.int .i64 k,.slice none 0 0,.int .i64 0,.slice none 0 0] from I3.L);obtain⟨g0,g1,g2,g3⟩:=wu I3.G;obtain⟨f0,f1,f2,f3⟩:=Kj I3.G;have mi:=ae I3;clear I3 Dz acY kP;go_wp2;obtain⟨fV,gX⟩:=F0 mi.out.G (.int .i64 k) (.slice none 0 0) (.int .i64 0) (.slice none 0 0);refine bodyPost_ret (F6 gX _ rfl rfl rfl) rfl ?_;exact⟨dF mi.out.g fV (bj _),.inl ⟨k,none,0,0,0,none,0,0,r3,HN.out,rfl⟩⟩
  ·have hir:=(FO r1 1 false n ins r3 qg.out).2
   have I3:=kP.out.gV Dz;have eC:=kP.out.L.lt;clear d0 d1 d2 d3 g0 g1 g2 g3 f0 f1 f2 f3;obtain⟨d0,d1,d2,d3⟩:=wu (show aj w3 (w.heap.size+1) 172 #[.int .i64 k,.slice none 0 0,.int .i64 0,.slice none 0 0] from I3.L);have FU:=I3.L.free 1;have mi:=ae (I3.put 1 (.slice a3 ins.length c3));have qL:=ae (kY.kept (bD w3 (w.heap.size+1) 1 (.slice a3 ins.length c3)) eC);have P3:w2.heap.size<=w3.heap.size:=Dz.size;clear I3 Dz kP kY;obtain⟨w4,Hw4⟩:∃w4,Hid (w3.setCell ⟨w.heap.size+1,1,none⟩ (.slice a3 ins.length c3)=w4):=⟨_,rfl⟩;rw[Hw4.out] at mi qL;go_wp2_with fail;rw[Hw4.out];refine(xN r3 1 false w4 (by decide) (by decide) (by omega)).mono ?_;rintro e w5⟨rfl,g5⟩;have Tu:=R.Ey r3 false;have JB:=(vY r3 1 false).1;obtain⟨⟨out,r5,mX⟩,uG⟩:∃p,Hid (R.take r3 1 false=p):=⟨_,rfl⟩;rw[uG.out] at Tu JB ⊢;have bo:0<=out/\out<=255:=Tu;have hr5:r5.length<=r3.length:=JB;have I5:=mi.out.gV g5;clear d0 d1 d2 d3 FU Tu JB;obtain⟨d0,d1,d2,d3⟩:=wu (show aj w5 (w.heap.size+1) 172 #[.int .i64 k,.slice a3 ins.length c3,.int .i64 0,.slice none 0 0] from I5.L);have FV:=I5.L.free 2;have rL:=ae (I5.put 2 (.int .i64 out));have B8:=ae ((qL.out.Z g5).kept (bD w5 (w.heap.size+1) 2 (.int .i64 out)) eC);clear I5 g5 mi qL;obtain⟨w6,Hw6⟩:∃w6,Hid (w5.setCell ⟨w.heap.size+1,2,none⟩ (.int .i64 out)=w6):=⟨_,rfl⟩;rw[Hw6.out] at rL B8;have iC:=ae rL.out.G;have AV:=ae rL.out.g;have CK:=ae (show aj w6 (w.heap.size+1) 172 (o4 k (.slice a3 ins.length c3) out (.slice none 0 0)) from rL.out.L);have qh:w.heap.size+1<w6.heap.size:=aj.lt CK.out;obtain⟨i0,hi,cQ,cR,cZ⟩:=info_parts Tryz.oH;have Kk:(S9 (cs.map R.pN)).size=cs.length:=by rw[FN,jh]
   go_wp2;rw[Hw6.out];clear d0 d1 d2 d3 FV rL;go_loopw[0,7,12] (fun s Km i wr=>∃(j:Nat) (vs:List Int) (r:List UInt8) (b:Bool) (av:Option Addr) (cv:Nat),Hid (j<=cs.length)/\i=.int .i64 j/\s=.string (S9 r)/\Km=.bool b/\Hid (r.length<=l.length)/\Hid (vs.length<=j)/\Hid (tB cs r5 mX j vs r b)/\Hid (aj wr (w.heap.size+1) 172 (o4 k (.slice a3 ins.length c3) out (.slice av vs.length cv)))/\Hid (aZ wr w6.heap.size (.slice av vs.length cv) vs)/\w6.grownBy wr (some (w.heap.size+1))) (fun _ _ i _=>cs.length-(intOf i).toNat)
   case atStart=>exact⟨0,[],r5,mX,none,0,bK _,rfl,rfl,rfl,(by show r5.length<=l.length;omega),bj _,tB.start _ _ _,CK.out,aZ.nil _ _,gL _ _⟩
   case round=>
    obtain⟨j,vs,r,b,av,cv,Hj,rfl,rfl,rfl,Hr,uH,eX,HB,HI,bO⟩:=hrel;obtain⟨d0,d1,d2,d3⟩:=wu (show aj wr (w.heap.size+1) 172 #[.int .i64 k,.slice a3 ins.length c3,.int .i64 out,.slice av vs.length cv] from HB.out);have AU:=HB.out.free 3;have dh:=HB.out.lt;by_cases aK:j<cs.length
    ·have dU:=ae aK
     cases b with
     | false=>
      have HN:=ae (show R.op l=none by
       rw[HY.out,qg.out];rcases eX.out.no with h|h
       ·subst h;dsimp only;rw[R.qo uG.out]
       ·dsimp only
        cases h5:mX with
        | false=>rw[h5] at uG;rw[R.qo uG.out]
        | true=>rw[h5] at uG;rw[R.rY uG.out];dsimp only;rw[h])
      have HG:=ae (aj.kept iC.out bO (by simp));obtain⟨g0,g1,g2,g3⟩:=wu HG.out;obtain⟨f0,f1,f2,f3⟩:=Kj HG.out;have Tv:=ae (B8.out.kept bO eC);have Kn:=ae (dF AV.out bO (by omega));clear bO;go_wp2;obtain⟨fV,gX⟩:=F0 HG.out (.int .i64 k) (.slice a3 ins.length c3) (.int .i64 out) (.slice av vs.length cv);refine bodyPost_ret (F6 gX _ rfl rfl rfl) rfl ?_;exact⟨dF Kn.out fV (bj _),.inl ⟨k,a3,ins.length,c3,out,av,vs.length,cv,r,HN.out,rfl⟩⟩
     | true=>
      obtain⟨c,hc⟩:∃c,cs[j]?=some c:=⟨_,aT aK⟩;have Tw:=Hsg.out c (bV hc);have xT:j<(S9 (cs.map R.pN)).size:=by rw[Kk];exact aK
      have Hb:=ae (Ol (cs.map R.pN) j xT (R.pN c) (by rw[dY,hc];rfl));have Hc:=ae hc;clear hc;rcases Tw with rfl|rfl|rfl|rfl
      ·have hb:((S9 (cs.map R.pN))[j]'xT).toNat=117:=by rw[Hb.out];rfl
       go_wp2_with fail;refine(xN r 1 false wr (by decide) (by decide) (by have:=Hr.out;omega)).mono ?_;rintro e w8⟨rfl,g8⟩;have gG:=(vY r 1 false).1;have mV:=R.Ke r 1 false (by decide);obtain⟨⟨v,r8,Ez⟩,q7⟩:∃p,Hid (R.take r 1 false=p):=⟨_,rfl⟩;rw[q7.out] at gG mV ⊢;have wD:Hid (r8.length<=r.length):=gG;have Tx:=ae mV;have js:=ae (HB.out.kept g8 (by simp));have iQ:=ae (HI.out.Z g8);have fJ:=ae (aC bO (pd g8));have Ty:w6.heap.size<=w8.heap.size:=fJ.out.size;clear d0 d1 d2 d3 AU dh g8 bO HB HI gG mV;have d3:w8.cell? ⟨w.heap.size+1,3,none⟩=some (.slice av vs.length cv):=js.out.cell 3;have Tz:vs.length<=8:=by have:=uH.out;have:=dU.out;omega
       have TA:j<8:=by have:=dU.out;omega
       cases Ez with
       | false=>
        have lS:=ae (eX.out.CX (us:=vs++[v]) (r8:=r8) Hc.out (R.Oz q7.out));go_wp2_with (at_builtin;refine ng _ rfl _ _ 32 rfl w6.heap.size 3 i0 (.int .i64 0) 1 8 underlying32 hi cQ cR cZ rfl (by decide) _ _ _ rfl (lP iQ.out _) ⟨w8.heap.size,0,none⟩ 1 1 [.int .i64 v] rfl rfl ?c1 ?c2 ?c3 ?c4 ?c5 ?_)
        case c1=>exact kb w8 3 #[.int .i64 v]
        case c2=>intro u hu;simp at hu;subst hu;rfl
        case c3=>unfold maxLen;omega
        case c4=>omega
        case c5=>simp;omega
        intro v' w9 dC cV _;have bC:w8.grownBy w9 (Value.slice av vs.length cv).ownBlock:=aC (aQ _ _ _) cV;have dR:=mE iQ.out;have fx:=js.out.kept bC (by intro e;have:=dR _ e.symm;omega);have kT:w6.grownBy w9 (some (w.heap.size+1)):=mA fJ.out bC (fun g hg=>by have:=dR g hg;omega);have e4:w9.cell? ⟨w.heap.size+1,3,none⟩=some (.slice av vs.length cv):=fx.cell 3;have f4:=fx.free 3;obtain⟨eP,eQ,hv⟩:=gY dC;rw[hv] at dC ⊢;have j7:aZ w9 w6.heap.size (.slice eP (vs++[v]).length eQ) (vs++[v]):=by
         unfold aZ;simpa using dC
        have lr:=ae (j7.kept (bD w9 (w.heap.size+1) 3 (.slice eP (vs.length+1) eQ)) (by omega));have oY:=ae (fx.set 3 (.slice eP (vs.length+1) eQ));have jx:=ae (aC kT (bD w9 (w.heap.size+1) 3 (.slice eP (vs.length+1) eQ)));clear hv dC cV bC dR iQ fJ js j7 kT fx;go_wp2;go_roundw
        case rel=>
         refine⟨j+1,vs++[v],r8,false,eP,eQ,(by have:=dU.out;unfold Hid;omega),by go_num,rfl,rfl,(by have:=wD.out;have:=Hr.out;unfold Hid;omega),(by have:=uH.out;unfold Hid;simp;omega),lS.out,ae ?_,ae ?_,jx.out⟩
         ·have e:=oY.out;simpa using e
         ·have e:=lr.out;simpa using e
        case measure=>have:=dU.out;simp[intOf];omega
       | true=>
        have lS:=ae (eX.out.go Hc.out (R.Oy q7.out (fun h=>aN h.1 (by decide))));go_wp2_with (at_builtin;refine ng _ rfl _ _ 32 rfl w6.heap.size 3 i0 (.int .i64 0) 1 8 underlying32 hi cQ cR cZ rfl (by decide) _ _ _ rfl (lP iQ.out _) ⟨w8.heap.size,0,none⟩ 1 1 [.int .i64 v] rfl rfl ?c1 ?c2 ?c3 ?c4 ?c5 ?_)
        case c1=>exact kb w8 3 #[.int .i64 v]
        case c2=>intro u hu;simp at hu;subst hu;rfl
        case c3=>unfold maxLen;omega
        case c4=>omega
        case c5=>simp;omega
        intro v' w9 dC cV _;have bC:w8.grownBy w9 (Value.slice av vs.length cv).ownBlock:=aC (aQ _ _ _) cV;have dR:=mE iQ.out;have fx:=js.out.kept bC (by intro e;have:=dR _ e.symm;omega);have kT:w6.grownBy w9 (some (w.heap.size+1)):=mA fJ.out bC (fun g hg=>by have:=dR g hg;omega);have e4:w9.cell? ⟨w.heap.size+1,3,none⟩=some (.slice av vs.length cv):=fx.cell 3;have f4:=fx.free 3;obtain⟨eP,eQ,hv⟩:=gY dC;rw[hv] at dC ⊢;have j7:aZ w9 w6.heap.size (.slice eP (vs++[v]).length eQ) (vs++[v]):=by
         unfold aZ;simpa using dC
        have lr:=ae (j7.kept (bD w9 (w.heap.size+1) 3 (.slice eP (vs.length+1) eQ)) (by omega));have oY:=ae (fx.set 3 (.slice eP (vs.length+1) eQ));have jx:=ae (aC kT (bD w9 (w.heap.size+1) 3 (.slice eP (vs.length+1) eQ)));clear hv dC cV bC dR iQ fJ js j7 kT fx;go_wp2;go_roundw
        case rel=>
         refine⟨j+1,vs++[v],r8,true,eP,eQ,(by have:=dU.out;unfold Hid;omega),by go_num,rfl,rfl,(by have:=wD.out;have:=Hr.out;unfold Hid;omega),(by have:=uH.out;unfold Hid;simp;omega),lS.out,ae ?_,ae ?_,jx.out⟩
         ·have e:=oY.out;simpa using e
         ·have e:=lr.out;simpa using e
        case measure=>have:=dU.out;simp[intOf];omega
      ·have hb:((S9 (cs.map R.pN))[j]'xT).toNat=115:=by rw[Hb.out];rfl
       go_wp2_with fail;refine(xN r 1 true wr (by decide) (by decide) (by have:=Hr.out;omega)).mono ?_;rintro e w8⟨rfl,g8⟩;have gG:=(vY r 1 true).1;have mV:=R.Ke r 1 true (by decide);obtain⟨⟨v,r8,Ez⟩,q7⟩:∃p,Hid (R.take r 1 true=p):=⟨_,rfl⟩;rw[q7.out] at gG mV ⊢;have wD:Hid (r8.length<=r.length):=gG;have Tx:=ae mV;have js:=ae (HB.out.kept g8 (by simp));have iQ:=ae (HI.out.Z g8);have fJ:=ae (aC bO (pd g8));have Ty:w6.heap.size<=w8.heap.size:=fJ.out.size;clear d0 d1 d2 d3 AU dh g8 bO HB HI gG mV;have d3:w8.cell? ⟨w.heap.size+1,3,none⟩=some (.slice av vs.length cv):=js.out.cell 3;have Tz:vs.length<=8:=by have:=uH.out;have:=dU.out;omega
       have TA:j<8:=by have:=dU.out;omega
       cases Ez with
       | false=>
        have lS:=ae (eX.out.CX (us:=vs++[v]) (r8:=r8) Hc.out (R.Oz q7.out));go_wp2_with (at_builtin;refine ng _ rfl _ _ 32 rfl w6.heap.size 3 i0 (.int .i64 0) 1 8 underlying32 hi cQ cR cZ rfl (by decide) _ _ _ rfl (lP iQ.out _) ⟨w8.heap.size,0,none⟩ 1 1 [.int .i64 v] rfl rfl ?c1 ?c2 ?c3 ?c4 ?c5 ?_)
        case c1=>exact kb w8 3 #[.int .i64 v]
        case c2=>intro u hu;simp at hu;subst hu;rfl
        case c3=>unfold maxLen;omega
        case c4=>omega
        case c5=>simp;omega
        intro v' w9 dC cV _;have bC:w8.grownBy w9 (Value.slice av vs.length cv).ownBlock:=aC (aQ _ _ _) cV;have dR:=mE iQ.out;have fx:=js.out.kept bC (by intro e;have:=dR _ e.symm;omega);have kT:w6.grownBy w9 (some (w.heap.size+1)):=mA fJ.out bC (fun g hg=>by have:=dR g hg;omega);have e4:w9.cell? ⟨w.heap.size+1,3,none⟩=some (.slice av vs.length cv):=fx.cell 3;have f4:=fx.free 3;obtain⟨eP,eQ,hv⟩:=gY dC;rw[hv] at dC ⊢;have j7:aZ w9 w6.heap.size (.slice eP (vs++[v]).length eQ) (vs++[v]):=by
         unfold aZ;simpa using dC
        have lr:=ae (j7.kept (bD w9 (w.heap.size+1) 3 (.slice eP (vs.length+1) eQ)) (by omega));have oY:=ae (fx.set 3 (.slice eP (vs.length+1) eQ));have jx:=ae (aC kT (bD w9 (w.heap.size+1) 3 (.slice eP (vs.length+1) eQ)));clear hv dC cV bC dR iQ fJ js j7 kT fx;go_wp2;go_roundw
        case rel=>
         refine⟨j+1,vs++[v],r8,false,eP,eQ,(by have:=dU.out;unfold Hid;omega),by go_num,rfl,rfl,(by have:=wD.out;have:=Hr.out;unfold Hid;omega),(by have:=uH.out;unfold Hid;simp;omega),lS.out,ae ?_,ae ?_,jx.out⟩
         ·have e:=oY.out;simpa using e
         ·have e:=lr.out;simpa using e
        case measure=>have:=dU.out;simp[intOf];omega
       | true=>
        have lS:=ae (eX.out.go Hc.out (R.Oy q7.out (fun h=>aN h.1 (by decide))));go_wp2_with (at_builtin;refine ng _ rfl _ _ 32 rfl w6.heap.size 3 i0 (.int .i64 0) 1 8 underlying32 hi cQ cR cZ rfl (by decide) _ _ _ rfl (lP iQ.out _) ⟨w8.heap.size,0,none⟩ 1 1 [.int .i64 v] rfl rfl ?c1 ?c2 ?c3 ?c4 ?c5 ?_)
        case c1=>exact kb w8 3 #[.int .i64 v]
        case c2=>intro u hu;simp at hu;subst hu;rfl
        case c3=>unfold maxLen;omega
        case c4=>omega
        case c5=>simp;omega
        intro v' w9 dC cV _;have bC:w8.grownBy w9 (Value.slice av vs.length cv).ownBlock:=aC (aQ _ _ _) cV;have dR:=mE iQ.out;have fx:=js.out.kept bC (by intro e;have:=dR _ e.symm;omega);have kT:w6.grownBy w9 (some (w.heap.size+1)):=mA fJ.out bC (fun g hg=>by have:=dR g hg;omega);have e4:w9.cell? ⟨w.heap.size+1,3,none⟩=some (.slice av vs.length cv):=fx.cell 3;have f4:=fx.free 3;obtain⟨eP,eQ,hv⟩:=gY dC;rw[hv] at dC ⊢;have j7:aZ w9 w6.heap.size (.slice eP (vs++[v]).length eQ) (vs++[v]):=by
         unfold aZ;simpa using dC
        have lr:=ae (j7.kept (bD w9 (w.heap.size+1) 3 (.slice eP (vs.length+1) eQ)) (by omega));have oY:=ae (fx.set 3 (.slice eP (vs.length+1) eQ));have jx:=ae (aC kT (bD w9 (w.heap.size+1) 3 (.slice eP (vs.length+1) eQ)));clear hv dC cV bC dR iQ fJ js j7 kT fx;go_wp2;go_roundw
        case rel=>
         refine⟨j+1,vs++[v],r8,true,eP,eQ,(by have:=dU.out;unfold Hid;omega),by go_num,rfl,rfl,(by have:=wD.out;have:=Hr.out;unfold Hid;omega),(by have:=uH.out;unfold Hid;simp;omega),lS.out,ae ?_,ae ?_,jx.out⟩
         ·have e:=oY.out;simpa using e
         ·have e:=lr.out;simpa using e
        case measure=>have:=dU.out;simp[intOf];omega
      ·have hb:((S9 (cs.map R.pN))[j]'xT).toNat=98:=by rw[Hb.out];rfl
       go_wp2_with fail;refine(xN r 1 false wr (by decide) (by decide) (by have:=Hr.out;omega)).mono ?_;rintro e w8⟨rfl,g8⟩;have gG:=(vY r 1 false).1;have mV:=R.Ke r 1 false (by decide);obtain⟨⟨v,r8,Ez⟩,q7⟩:∃p,Hid (R.take r 1 false=p):=⟨_,rfl⟩;rw[q7.out] at gG mV ⊢;have wD:Hid (r8.length<=r.length):=gG;have Tx:=ae mV;have js:=ae (HB.out.kept g8 (by simp));have iQ:=ae (HI.out.Z g8);have fJ:=ae (aC bO (pd g8));have Ty:w6.heap.size<=w8.heap.size:=fJ.out.size;clear d0 d1 d2 d3 AU dh g8 bO HB HI gG mV;have d3:w8.cell? ⟨w.heap.size+1,3,none⟩=some (.slice av vs.length cv):=js.out.cell 3;have Tz:vs.length<=8:=by have:=uH.out;have:=dU.out;omega
       have TA:j<8:=by have:=dU.out;omega
       cases Ez with
       | false=>
        have lS:=ae (eX.out.CX (us:=vs++[v]) (r8:=r8) Hc.out (R.Oz q7.out));go_wp2_with (at_builtin;refine ng _ rfl _ _ 32 rfl w6.heap.size 3 i0 (.int .i64 0) 1 8 underlying32 hi cQ cR cZ rfl (by decide) _ _ _ rfl (lP iQ.out _) ⟨w8.heap.size,0,none⟩ 1 1 [.int .i64 v] rfl rfl ?c1 ?c2 ?c3 ?c4 ?c5 ?_)
        case c1=>exact kb w8 3 #[.int .i64 v]
        case c2=>intro u hu;simp at hu;subst hu;rfl
        case c3=>unfold maxLen;omega
        case c4=>omega
        case c5=>simp;omega
        intro v' w9 dC cV _;have bC:w8.grownBy w9 (Value.slice av vs.length cv).ownBlock:=aC (aQ _ _ _) cV;have dR:=mE iQ.out;have fx:=js.out.kept bC (by intro e;have:=dR _ e.symm;omega);have kT:w6.grownBy w9 (some (w.heap.size+1)):=mA fJ.out bC (fun g hg=>by have:=dR g hg;omega);have e4:w9.cell? ⟨w.heap.size+1,3,none⟩=some (.slice av vs.length cv):=fx.cell 3;have f4:=fx.free 3;obtain⟨eP,eQ,hv⟩:=gY dC;rw[hv] at dC ⊢;have j7:aZ w9 w6.heap.size (.slice eP (vs++[v]).length eQ) (vs++[v]):=by
         unfold aZ;simpa using dC
        have lr:=ae (j7.kept (bD w9 (w.heap.size+1) 3 (.slice eP (vs.length+1) eQ)) (by omega));have oY:=ae (fx.set 3 (.slice eP (vs.length+1) eQ));have jx:=ae (aC kT (bD w9 (w.heap.size+1) 3 (.slice eP (vs.length+1) eQ)));clear hv dC cV bC dR iQ fJ js j7 kT fx;go_wp2;go_roundw
        case rel=>
         refine⟨j+1,vs++[v],r8,false,eP,eQ,(by have:=dU.out;unfold Hid;omega),by go_num,rfl,rfl,(by have:=wD.out;have:=Hr.out;unfold Hid;omega),(by have:=uH.out;unfold Hid;simp;omega),lS.out,ae ?_,ae ?_,jx.out⟩
         ·have e:=oY.out;simpa using e
         ·have e:=lr.out;simpa using e
        case measure=>have:=dU.out;simp[intOf];omega
       | true=>
        by_cases EA:v<2
        ·have aqq:decide (v<2)=true:=eG EA
         have TB:=ae EA;have lS:=ae (eX.out.go Hc.out (R.Oy q7.out (fun h=>h.2 TB.out)));go_wp2_with (at_builtin;refine ng _ rfl _ _ 32 rfl w6.heap.size 3 i0 (.int .i64 0) 1 8 underlying32 hi cQ cR cZ rfl (by decide) _ _ _ rfl (lP iQ.out _) ⟨w8.heap.size,0,none⟩ 1 1 [.int .i64 v] rfl rfl ?c1 ?c2 ?c3 ?c4 ?c5 ?_)
         case c1=>exact kb w8 3 #[.int .i64 v]
         case c2=>intro u hu;simp at hu;subst hu;rfl
         case c3=>unfold maxLen;omega
         case c4=>omega
         case c5=>simp;omega
         intro v' w9 dC cV _;have bC:w8.grownBy w9 (Value.slice av vs.length cv).ownBlock:=aC (aQ _ _ _) cV;have dR:=mE iQ.out;have fx:=js.out.kept bC (by intro e;have:=dR _ e.symm;omega);have kT:w6.grownBy w9 (some (w.heap.size+1)):=mA fJ.out bC (fun g hg=>by have:=dR g hg;omega);have e4:w9.cell? ⟨w.heap.size+1,3,none⟩=some (.slice av vs.length cv):=fx.cell 3;have f4:=fx.free 3;obtain⟨eP,eQ,hv⟩:=gY dC;rw[hv] at dC ⊢;have j7:aZ w9 w6.heap.size (.slice eP (vs++[v]).length eQ) (vs++[v]):=by
          unfold aZ;simpa using dC
         have lr:=ae (j7.kept (bD w9 (w.heap.size+1) 3 (.slice eP (vs.length+1) eQ)) (by omega));have oY:=ae (fx.set 3 (.slice eP (vs.length+1) eQ));have jx:=ae (aC kT (bD w9 (w.heap.size+1) 3 (.slice eP (vs.length+1) eQ)));clear hv dC cV bC dR iQ fJ js j7 kT fx;go_wp2;go_roundw
         case rel=>
          refine⟨j+1,vs++[v],r8,true,eP,eQ,(by have:=dU.out;unfold Hid;omega),by go_num,rfl,rfl,(by have:=wD.out;have:=Hr.out;unfold Hid;omega),(by have:=uH.out;unfold Hid;simp;omega),lS.out,ae ?_,ae ?_,jx.out⟩
          ·have e:=oY.out;simpa using e
          ·have e:=lr.out;simpa using e
         case measure=>have:=dU.out;simp[intOf];omega
        ·have aqq:decide (v<2)=false:=eD EA
         have TB:=ae EA;have lS:=ae (eX.out.CX (us:=vs++[v]) (r8:=r8) Hc.out (R.aqj q7.out ⟨rfl,TB.out⟩));go_wp2_with (at_builtin;refine ng _ rfl _ _ 32 rfl w6.heap.size 3 i0 (.int .i64 0) 1 8 underlying32 hi cQ cR cZ rfl (by decide) _ _ _ rfl (lP iQ.out _) ⟨w8.heap.size,0,none⟩ 1 1 [.int .i64 v] rfl rfl ?c1 ?c2 ?c3 ?c4 ?c5 ?_)
         case c1=>exact kb w8 3 #[.int .i64 v]
         case c2=>intro u hu;simp at hu;subst hu;rfl
         case c3=>unfold maxLen;omega
         case c4=>omega
         case c5=>simp;omega
         intro v' w9 dC cV _;have bC:w8.grownBy w9 (Value.slice av vs.length cv).ownBlock:=aC (aQ _ _ _) cV;have dR:=mE iQ.out;have fx:=js.out.kept bC (by intro e;have:=dR _ e.symm;omega);have kT:w6.grownBy w9 (some (w.heap.size+1)):=mA fJ.out bC (fun g hg=>by have:=dR g hg;omega);have e4:w9.cell? ⟨w.heap.size+1,3,none⟩=some (.slice av vs.length cv):=fx.cell 3;have f4:=fx.free 3;obtain⟨eP,eQ,hv⟩:=gY dC;rw[hv] at dC ⊢;have j7:aZ w9 w6.heap.size (.slice eP (vs++[v]).length eQ) (vs++[v]):=by
          unfold aZ;simpa using dC
         have lr:=ae (j7.kept (bD w9 (w.heap.size+1) 3 (.slice eP (vs.length+1) eQ)) (by omega));have oY:=ae (fx.set 3 (.slice eP (vs.length+1) eQ));have jx:=ae (aC kT (bD w9 (w.heap.size+1) 3 (.slice eP (vs.length+1) eQ)));clear hv dC cV bC dR iQ fJ js j7 kT fx;go_wp2;go_roundw
         case rel=>
          refine⟨j+1,vs++[v],r8,false,eP,eQ,(by have:=dU.out;unfold Hid;omega),by go_num,rfl,rfl,(by have:=wD.out;have:=Hr.out;unfold Hid;omega),(by have:=uH.out;unfold Hid;simp;omega),lS.out,ae ?_,ae ?_,jx.out⟩
          ·have e:=oY.out;simpa using e
          ·have e:=lr.out;simpa using e
         case measure=>have:=dU.out;simp[intOf];omega
      ·have hb:((S9 (cs.map R.pN))[j]'xT).toNat=119:=by rw[Hb.out];rfl
       go_wp2_with fail;refine(xN r 4 true wr (by decide) (by decide) (by have:=Hr.out;omega)).mono ?_;rintro e w8⟨rfl,g8⟩;have gG:=(vY r 4 true).1;have mV:=R.Ke r 4 true (by decide);obtain⟨⟨v,r8,Ez⟩,q7⟩:∃p,Hid (R.take r 4 true=p):=⟨_,rfl⟩;rw[q7.out] at gG mV ⊢;have wD:Hid (r8.length<=r.length):=gG;have Tx:=ae mV;have js:=ae (HB.out.kept g8 (by simp));have iQ:=ae (HI.out.Z g8);have fJ:=ae (aC bO (pd g8));have Ty:w6.heap.size<=w8.heap.size:=fJ.out.size;clear d0 d1 d2 d3 AU dh g8 bO HB HI gG mV;have d3:w8.cell? ⟨w.heap.size+1,3,none⟩=some (.slice av vs.length cv):=js.out.cell 3;have Tz:vs.length<=8:=by have:=uH.out;have:=dU.out;omega
       have TA:j<8:=by have:=dU.out;omega
       cases Ez with
       | false=>
        have lS:=ae (eX.out.CX (us:=vs++[v]) (r8:=r8) Hc.out (R.Oz q7.out));go_wp2_with (at_builtin;refine ng _ rfl _ _ 32 rfl w6.heap.size 3 i0 (.int .i64 0) 1 8 underlying32 hi cQ cR cZ rfl (by decide) _ _ _ rfl (lP iQ.out _) ⟨w8.heap.size,0,none⟩ 1 1 [.int .i64 v] rfl rfl ?c1 ?c2 ?c3 ?c4 ?c5 ?_)
        case c1=>exact kb w8 3 #[.int .i64 v]
        case c2=>intro u hu;simp at hu;subst hu;rfl
        case c3=>unfold maxLen;omega
        case c4=>omega
        case c5=>simp;omega
        intro v' w9 dC cV _;have bC:w8.grownBy w9 (Value.slice av vs.length cv).ownBlock:=aC (aQ _ _ _) cV;have dR:=mE iQ.out;have fx:=js.out.kept bC (by intro e;have:=dR _ e.symm;omega);have kT:w6.grownBy w9 (some (w.heap.size+1)):=mA fJ.out bC (fun g hg=>by have:=dR g hg;omega);have e4:w9.cell? ⟨w.heap.size+1,3,none⟩=some (.slice av vs.length cv):=fx.cell 3;have f4:=fx.free 3;obtain⟨eP,eQ,hv⟩:=gY dC;rw[hv] at dC ⊢;have j7:aZ w9 w6.heap.size (.slice eP (vs++[v]).length eQ) (vs++[v]):=by
         unfold aZ;simpa using dC
        have lr:=ae (j7.kept (bD w9 (w.heap.size+1) 3 (.slice eP (vs.length+1) eQ)) (by omega));have oY:=ae (fx.set 3 (.slice eP (vs.length+1) eQ));have jx:=ae (aC kT (bD w9 (w.heap.size+1) 3 (.slice eP (vs.length+1) eQ)));clear hv dC cV bC dR iQ fJ js j7 kT fx;go_wp2;go_roundw
        case rel=>
         refine⟨j+1,vs++[v],r8,false,eP,eQ,(by have:=dU.out;unfold Hid;omega),by go_num,rfl,rfl,(by have:=wD.out;have:=Hr.out;unfold Hid;omega),(by have:=uH.out;unfold Hid;simp;omega),lS.out,ae ?_,ae ?_,jx.out⟩
         ·have e:=oY.out;simpa using e
         ·have e:=lr.out;simpa using e
        case measure=>have:=dU.out;simp[intOf];omega
       | true=>
        have lS:=ae (eX.out.go Hc.out (R.Oy q7.out (fun h=>aN h.1 (by decide))));go_wp2_with (at_builtin;refine ng _ rfl _ _ 32 rfl w6.heap.size 3 i0 (.int .i64 0) 1 8 underlying32 hi cQ cR cZ rfl (by decide) _ _ _ rfl (lP iQ.out _) ⟨w8.heap.size,0,none⟩ 1 1 [.int .i64 v] rfl rfl ?c1 ?c2 ?c3 ?c4 ?c5 ?_)
        case c1=>exact kb w8 3 #[.int .i64 v]
        case c2=>intro u hu;simp at hu;subst hu;rfl
        case c3=>unfold maxLen;omega
        case c4=>omega
        case c5=>simp;omega
        intro v' w9 dC cV _;have bC:w8.grownBy w9 (Value.slice av vs.length cv).ownBlock:=aC (aQ _ _ _) cV;have dR:=mE iQ.out;have fx:=js.out.kept bC (by intro e;have:=dR _ e.symm;omega);have kT:w6.grownBy w9 (some (w.heap.size+1)):=mA fJ.out bC (fun g hg=>by have:=dR g hg;omega);have e4:w9.cell? ⟨w.heap.size+1,3,none⟩=some (.slice av vs.length cv):=fx.cell 3;have f4:=fx.free 3;obtain⟨eP,eQ,hv⟩:=gY dC;rw[hv] at dC ⊢;have j7:aZ w9 w6.heap.size (.slice eP (vs++[v]).length eQ) (vs++[v]):=by
         unfold aZ;simpa using dC
        have lr:=ae (j7.kept (bD w9 (w.heap.size+1) 3 (.slice eP (vs.length+1) eQ)) (by omega));have oY:=ae (fx.set 3 (.slice eP (vs.length+1) eQ));have jx:=ae (aC kT (bD w9 (w.heap.size+1) 3 (.slice eP (vs.length+1) eQ)));clear hv dC cV bC dR iQ fJ js j7 kT fx;go_wp2;go_roundw
        case rel=>
         refine⟨j+1,vs++[v],r8,true,eP,eQ,(by have:=dU.out;unfold Hid;omega),by go_num,rfl,rfl,(by have:=wD.out;have:=Hr.out;unfold Hid;omega),(by have:=uH.out;unfold Hid;simp;omega),lS.out,ae ?_,ae ?_,jx.out⟩
         ·have e:=oY.out;simpa using e
         ·have e:=lr.out;simpa using e
        case measure=>have:=dU.out;simp[intOf];omega
    ·have ke:j=cs.length:=by have:=Hj.out;omega
     subst ke;have Y5:decide ((cs.length:Int)<(cs.length:Int))=false:=eD (by omega)
     cases b with
     | false=>
      have HN:=ae (show R.op l=none by
       rw[HY.out,qg.out];rcases eX.out.no with h|h
       ·subst h;dsimp only;rw[R.qo uG.out]
       ·dsimp only
        cases h5:mX with
        | false=>rw[h5] at uG;rw[R.qo uG.out]
        | true=>rw[h5] at uG;rw[R.rY uG.out];dsimp only;rw[h])
      have HG:=ae (aj.kept iC.out bO (by simp));obtain⟨g0,g1,g2,g3⟩:=wu HG.out;obtain⟨f0,f1,f2,f3⟩:=Kj HG.out;have Tv:=ae (B8.out.kept bO eC);have Kn:=ae (dF AV.out bO (by omega));clear bO;go_wp2;obtain⟨fV,gX⟩:=F0 HG.out (.int .i64 k) (.slice a3 ins.length c3) (.int .i64 out) (.slice av vs.length cv);refine bodyPost_ret (F6 gX _ rfl rfl rfl) rfl ?_;exact⟨dF Kn.out fV (bj _),.inl ⟨k,a3,ins.length,c3,out,av,vs.length,cv,r,HN.out,rfl⟩⟩
     | true=>
      have HN:=ae (show R.op l=some (⟨k,ins,out,vs⟩,r) by
       obtain⟨h5,hy⟩:=eX.out.zm;rw[h5] at uG;rw[HY.out,qg.out]
       dsimp only
       rw[R.rY uG.out]
       dsimp only
       rw[jo] at hy;rw[hy])
      have HG:=ae (aj.kept iC.out bO (by simp));obtain⟨g0,g1,g2,g3⟩:=wu HG.out;obtain⟨f0,f1,f2,f3⟩:=Kj HG.out;have Tv:=ae (B8.out.kept bO eC);have Kn:=ae (dF AV.out bO (by omega));clear bO;go_wp2;obtain⟨fV,gX⟩:=F0 HG.out (.int .i64 k) (.slice a3 ins.length c3) (.int .i64 out) (.slice av vs.length cv);refine bodyPost_ret (F6 gX _ rfl rfl rfl) rfl ?_;refine⟨dF Kn.out fV (bj _),.inr ⟨⟨k,ins,out,vs⟩,a3,c3,av,cv,r,HN.out,Hr.out,rfl,?_,?_⟩⟩
      ·exact(Tv.out.kept fV (by omega)).mono (by omega)
      ·exact(HI.out.kept fV (by omega)).mono (by omega)
end Go.Proofs.YtcnhfffgbamonabGreat
