import Derived.Test.YtcnhfffgbamonabGreatZ23
import Derived.Test.YtcnhfffgbamonabGreatZ56
set_option maxRecDepth 100000
set_option maxHeartbeats 6400000
namespace Go.Proofs.YtcnhfffgbamonabGreat
open Go.Proofs.Tryz
open Go.RowKit
theorem aoP(bs:List H.Bf):(bs.flatMap gj).length=bs.length*2:=by
 rw[List.length_flatMap]
 induction bs with
 | nil=>rfl
 | cons x xs ih=>simp[gj] at ih ⊢;omega
theorem tj.below{w w':World}{B B' T:Nat}{ab fH ai ao:Option Addr}{cb cs ci co:Nat}{bs:List H.Bf}{ss:List Sp}{is us:List Int}(h:tj w B ab fH ai ao cb cs ci co bs ss is us)(hb:B'<=B)(hg:w.grownBy w' (some T))(hT:T<B):tj w' B' ab fH ai ao cb cs ci co bs ss is us:=by
 obtain⟨h1,⟨ps,p1,p2,p3⟩,h3,h4⟩:=h;exact⟨m9 (pf h1 hg hT) hb,⟨ps,p1,m9 (pf p2 hg hT) hb,fun p hp=>((p3 p hp).kept hg hT).mono hb⟩,(h3.kept hg hT).mono hb,(h4.kept hg hT).mono hb⟩
theorem SU{w:World}{g tt:Nat}{xs:List Value}(h:aj w g tt xs.toArray):∀j u,xs[j]?=some u->w.cell? ((⟨g,0,none⟩:Addr).add j)=some u:=fun j u hu=>by
 rw[wQ,h.cell j,nH];exact hu
theorem aoQ(g0 G g2 g3:Nat)(mk:Int)(bs:List H.Bf)(ss:List Sp)(is us:List Int)(w:World)
  (hB:aj w g0 116 (bs.flatMap gj).toArray) (hS:yV w (.slice (some ⟨G,0,none⟩) ss.length ss.length) ss) (hI:aj w g2 3 (is.map (Value.int .i64)).toArray) (hO:aj w g3 3 (us.map (Value.int .i64)).toArray)
  (nb:bs.length<=1000) (ns:ss.length<=1000) (ni:is.length<=1000) (no:us.length<=1000) (nf:∀s∈ss,s.bS.length<=1000) :
  Calls prog 80 #[.agg #[.slice (some ⟨g0,0,none⟩) bs.length bs.length,.slice (some ⟨G,0,none⟩) ss.length ss.length,.slice (some ⟨g2,0,none⟩) is.length is.length,.slice (some ⟨g3,0,none⟩) us.length us.length,.int .i64 mk]] w fun e w'=>(∃ab fH ai ao cb cs ci co,e=.returned (.agg #[.slice ab bs.length cb,.slice fH ss.length cs,.slice ai is.length ci,.slice ao us.length co,.int .i64 0])/\tj w' w.heap.size ab fH ai ao cb cs ci co bs ss is us)/\w.grownBy w' none:=by
 obtain⟨ib,hib,xC,yJ,BU⟩:=info_parts Tryz.RM;obtain⟨ii,MH,nJ,hi1,SV⟩:=info_parts Tryz.oH;obtain⟨ip,Je,EW,eV,fY⟩:=info_parts Tryz.Z9;have yN:(((w.alloc (.cells #[.slice (some ⟨g0,0,none⟩) bs.length bs.length,.slice (some ⟨G,0,none⟩) ss.length ss.length,.slice (some ⟨g2,0,none⟩) is.length is.length,.slice (some ⟨g3,0,none⟩) us.length us.length,.int .i64 mk] 132)).alloc (.cells #[.slice none 0 0,.slice none 0 0,.slice none 0 0,.slice none 0 0,.int .i64 0] 132)).alloc (.cells #[.slice none 0 0,.slice none 0 0,.slice none 0 0,.slice none 0 0,.int .i64 0] 132)).heap.size=w.heap.size+3:=by simp
 have G0:=ae (G8 w (.cells #[.slice (some ⟨g0,0,none⟩) bs.length bs.length,.slice (some ⟨G,0,none⟩) ss.length ss.length,.slice (some ⟨g2,0,none⟩) is.length is.length,.slice (some ⟨g3,0,none⟩) us.length us.length,.int .i64 mk] 132) (.cells #[.slice none 0 0,.slice none 0 0,.slice none 0 0,.slice none 0 0,.int .i64 0] 132) (.cells #[.slice none 0 0,.slice none 0 0,.slice none 0 0,.slice none 0 0,.int .i64 0] 132) none);have BA:=ae (((aj.bB w 132 #[.slice (some ⟨g0,0,none⟩) bs.length bs.length,.slice (some ⟨G,0,none⟩) ss.length ss.length,.slice (some ⟨g2,0,none⟩) is.length is.length,.slice (some ⟨g3,0,none⟩) us.length us.length,.int .i64 mk]).alloc (.cells #[.slice none 0 0,.slice none 0 0,.slice none 0 0,.slice none 0 0,.int .i64 0] 132)).alloc (.cells #[.slice none 0 0,.slice none 0 0,.slice none 0 0,.slice none 0 0,.int .i64 0] 132));have BR:=ae ((aj.yg w (.cells #[.slice (some ⟨g0,0,none⟩) bs.length bs.length,.slice (some ⟨G,0,none⟩) ss.length ss.length,.slice (some ⟨g2,0,none⟩) is.length is.length,.slice (some ⟨g3,0,none⟩) us.length us.length,.int .i64 mk] 132) 132 #[.slice none 0 0,.slice none 0 0,.slice none 0 0,.slice none 0 0,.int .i64 0]).alloc (.cells #[.slice none 0 0,.slice none 0 0,.slice none 0 0,.slice none 0 0,.int .i64 0] 132))
 have BC:Hid (aj (((w.alloc (.cells #[.slice (some ⟨g0,0,none⟩) bs.length bs.length,.slice (some ⟨G,0,none⟩) ss.length ss.length,.slice (some ⟨g2,0,none⟩) is.length is.length,.slice (some ⟨g3,0,none⟩) us.length us.length,.int .i64 mk] 132)).alloc (.cells #[.slice none 0 0,.slice none 0 0,.slice none 0 0,.slice none 0 0,.int .i64 0] 132)).alloc (.cells #[.slice none 0 0,.slice none 0 0,.slice none 0 0,.slice none 0 0,.int .i64 0] 132)) (w.heap.size+1+1) 132 #[.slice none 0 0,.slice none 0 0,.slice none 0 0,.slice none 0 0,.int .i64 0]):=by
  have e:=aj.bB ((w.alloc (.cells #[.slice (some ⟨g0,0,none⟩) bs.length bs.length,.slice (some ⟨G,0,none⟩) ss.length ss.length,.slice (some ⟨g2,0,none⟩) is.length is.length,.slice (some ⟨g3,0,none⟩) us.length us.length,.int .i64 mk] 132)).alloc (.cells #[.slice none 0 0,.slice none 0 0,.slice none 0 0,.slice none 0 0,.int .i64 0] 132)) 132 #[.slice none 0 0,.slice none 0 0,.slice none 0 0,.slice none 0 0,.int .i64 0];rw[World.size_alloc,World.size_alloc] at e;exact e
 obtain⟨W0,qj⟩:∃W,Hid ((((w.alloc (.cells #[.slice (some ⟨g0,0,none⟩) bs.length bs.length,.slice (some ⟨G,0,none⟩) ss.length ss.length,.slice (some ⟨g2,0,none⟩) is.length is.length,.slice (some ⟨g3,0,none⟩) us.length us.length,.int .i64 mk] 132)).alloc (.cells #[.slice none 0 0,.slice none 0 0,.slice none 0 0,.slice none 0 0,.int .i64 0] 132)).alloc (.cells #[.slice none 0 0,.slice none 0 0,.slice none 0 0,.slice none 0 0,.int .i64 0] 132))=W):=⟨_,rfl⟩;rw[qj.out] at yN G0 BA BR BC;have HB:=ae hB;have HI:=ae hI;have HO:=ae hO;have HS:=ae hS;have FH:=ae nf;clear hB hI hO hS nf;go_enter func80,ntmps80;go_wp2_with (at_builtin;rw[qj.out];refine wpList_append_own_at _ rfl _ _ 74 rfl (w.heap.size+3) 116 ib (.agg #[.int .i64 0,.int .i64 0]) 2 16 underlying74 hib xC yJ BU rfl (by decide) _ _ _ rfl (kq _ _ _ _) ⟨g0,0,none⟩ bs.length bs.length (bs.flatMap gj) rfl ?l1 ?c1 ?c2 ?c3 ?c4 ?c5 ?_)
 case l1=>exact aoP bs
 case c1=>exact SU (HB.out.kept G0.out (by simp))
 case c2=>intro u hu;obtain⟨x,-,hx⟩:=List.mem_flatMap.mp hu;unfold gj at hx;simp at hx;rcases hx with rfl|rfl<;>rfl
 case c3=>unfold maxLen;omega
 case c4=>omega
 case c5=>omega
 intro v1 w1 AP aH _ _;have Er:W0.grownBy w1 none:=aH;have O1:w1.ownsRow (w.heap.size+3) 116 2 v1 bs.length (bs.flatMap gj):=by simpa using AP
 obtain⟨ab,cb,rfl⟩:=gY O1;have C1:=BC.out.kept Er (by simp);have c0:w1.cell? ⟨w.heap.size+1+1,0,none⟩=some (.slice none 0 0):=C1.cell 0;have f0:=C1.free 0;have l0:=C1.lt;have cC:=bD w1 (w.heap.size+1+1) 0 (.slice ab bs.length cb);have jk:Hid (aj (w1.setCell ⟨w.heap.size+1+1,0,none⟩ (.slice ab bs.length cb)) (w.heap.size+1+1) 132 #[.slice ab bs.length cb,.slice none 0 0,.slice none 0 0,.slice none 0 0,.int .i64 0]):=C1.set 0 (.slice ab bs.length cb);have xD:=ae ((BA.out.kept Er (by simp)).kept cC (by intro e;injection e with e;omega));have Ft:=ae ((BR.out.kept Er (by simp)).kept cC (by intro e;injection e with e;omega));have Cm:=ae (pf O1 cC (by omega));have dN:=ae (dF (aC G0.out Er) cC (by omega));obtain⟨r1,yO⟩:∃r,Hid (w1.setCell ⟨w.heap.size+1+1,0,none⟩ (.slice ab bs.length cb)=r):=⟨_,rfl⟩;have AM:w.heap.size+3<=r1.heap.size:=by rw[<-yO.out];have:=Er.size;simp;omega
 rw[yO.out] at jk xD Ft Cm dN;have q1:w1.cell? ⟨w.heap.size+1+1,2,none⟩=some (.slice none 0 0):=C1.cell 2;have a1:w1.cell? ⟨w.heap.size,2,none⟩=some (.slice (some ⟨g2,0,none⟩) is.length is.length):=(BA.out.kept Er (by simp)).cell 2;clear AP aH Er O1 C1 cC BA BR BC G0 yN qj;go_wp2_with (at_builtin;rw[yO.out];refine wpList_append_own_at _ rfl _ _ 32 rfl (w.heap.size+3) 3 ii (.int .i64 0) 1 8 underlying32 MH nJ hi1 SV rfl (by decide) _ _ _ rfl (kq _ _ _ _) ⟨g2,0,none⟩ is.length is.length (is.map (Value.int .i64)) rfl ?l1 ?c1 ?c2 ?c3 ?c4 ?c5 ?_)
 case l1=>simp
 case c1=>exact SU (HI.out.kept dN.out (by simp))
 case c2=>intro u hu;obtain⟨x,-,rfl⟩:=List.mem_map.mp hu;rfl
 case c3=>unfold maxLen;omega
 case c4=>omega
 case c5=>omega
 intro v2 w2 JZ aM _ _;have CF:r1.grownBy w2 none:=aM;have O2:aZ w2 (w.heap.size+3) v2 is:=by unfold aZ;simpa using JZ
 obtain⟨ai,ci,rfl⟩:=gY O2;have C2:=jk.out.kept CF (by simp);have c2:w2.cell? ⟨w.heap.size+1+1,2,none⟩=some (.slice none 0 0):=C2.cell 2;have f2:=C2.free 2;have l2:=C2.lt;have cC:=bD w2 (w.heap.size+1+1) 2 (.slice ai is.length ci);have iW:Hid (aj (w2.setCell ⟨w.heap.size+1+1,2,none⟩ (.slice ai is.length ci)) (w.heap.size+1+1) 132 #[.slice ab bs.length cb,.slice none 0 0,.slice ai is.length ci,.slice none 0 0,.int .i64 0]):=C2.set 2 (.slice ai is.length ci);have mS:=ae ((xD.out.kept CF (by simp)).kept cC (by intro e;injection e with e;omega));have CG:=ae ((Ft.out.kept CF (by simp)).kept cC (by intro e;injection e with e;omega));have Cw:=ae (pf (eW Cm.out CF) cC (by omega));have mq:=ae (O2.kept cC (by omega));have dZ:=ae (dF (aC dN.out CF) cC (by omega));obtain⟨r2,yP⟩:∃r,Hid (w2.setCell ⟨w.heap.size+1+1,2,none⟩ (.slice ai is.length ci)=r):=⟨_,rfl⟩;have qE:w.heap.size+3<=r2.heap.size:=by rw[<-yP.out];have:=CF.size;simp;omega
 rw[yP.out] at iW mS CG Cw mq dZ;have q2:w2.cell? ⟨w.heap.size+1+1,3,none⟩=some (.slice none 0 0):=C2.cell 3;have a2:w2.cell? ⟨w.heap.size,3,none⟩=some (.slice (some ⟨g3,0,none⟩) us.length us.length):=(xD.out.kept CF (by simp)).cell 3;clear JZ aM CF O2 C2 cC xD Ft jk Cm dN yO q1 a1 c0 f0 l0;go_wp2_with (at_builtin;rw[yP.out];refine wpList_append_own_at _ rfl _ _ 32 rfl (w.heap.size+3) 3 ii (.int .i64 0) 1 8 underlying32 MH nJ hi1 SV rfl (by decide) _ _ _ rfl (kq _ _ _ _) ⟨g3,0,none⟩ us.length us.length (us.map (Value.int .i64)) rfl ?l1 ?c1 ?c2 ?c3 ?c4 ?c5 ?_)
 case l1=>simp
 case c1=>exact SU (HO.out.kept dZ.out (by simp))
 case c2=>intro u hu;obtain⟨x,-,rfl⟩:=List.mem_map.mp hu;rfl
 case c3=>unfold maxLen;omega
 case c4=>omega
 case c5=>omega
 intro v3 w3 ho3 aU _ _;have sW:r2.grownBy w3 none:=aU;have O3:aZ w3 (w.heap.size+3) v3 us:=by unfold aZ;simpa using ho3
 obtain⟨ao,co,rfl⟩:=gY O3;have C3:=iW.out.kept sW (by simp);have c3:w3.cell? ⟨w.heap.size+1+1,3,none⟩=some (.slice none 0 0):=C3.cell 3;have f3:=C3.free 3;have l3:=C3.lt;have cC:=bD w3 (w.heap.size+1+1) 3 (.slice ao us.length co);have rW:Hid (aj (w3.setCell ⟨w.heap.size+1+1,3,none⟩ (.slice ao us.length co)) (w.heap.size+1+1) 132 #[.slice ab bs.length cb,.slice none 0 0,.slice ai is.length ci,.slice ao us.length co,.int .i64 0]):=C3.set 3 (.slice ao us.length co);have mT:=ae ((mS.out.kept sW (by simp)).kept cC (by intro e;injection e with e;omega));have CH:=ae ((CG.out.kept sW (by simp)).kept cC (by intro e;injection e with e;omega));have AQ:=ae (pf (eW Cw.out sW) cC (by omega));have uB:=ae ((mq.out.Z sW).kept cC (by omega));have HQ3:=ae (O3.kept cC (by omega));have fW:=ae (dF (aC dZ.out sW) cC (by omega));have ab2:w.heap.size+3<=w3.heap.size:=by have:=sW.size;omega
 clear ho3 aU sW O3 C3 cC mS CG iW Cw mq dZ yP q2 a2 c2 f2 l2;go_wp2;go_loopw[4] (fun i wr=>∃(k:Nat) (ps:List (Sp×Nat)) (fH:Option Addr) (cs:Nat),k<=ss.length/\i=.int .i64 k/\Hid (ps.map (·.1)=ss.take k)/\Hid (aj wr (w.heap.size+1+1) 132 #[.slice ab bs.length cb,.slice fH k cs,.slice ai is.length ci,.slice ao us.length co,.int .i64 0]) /\
   Hid (aj wr w.heap.size 132 #[.slice (some ⟨g0,0,none⟩) bs.length bs.length,.slice (some ⟨G,0,none⟩) ss.length ss.length,.slice (some ⟨g2,0,none⟩) is.length is.length,.slice (some ⟨g3,0,none⟩) us.length us.length,.int .i64 mk]) /\
   Hid (aj wr (w.heap.size+1) 132 #[.slice none 0 0,.slice none 0 0,.slice none 0 0,.slice none 0 0,.int .i64 0])/\Hid (wr.ownsRow (w.heap.size+3) 116 2 (.slice ab bs.length cb) bs.length (bs.flatMap gj))/\Hid (aZ wr (w.heap.size+3) (.slice ai is.length ci) is)/\Hid (aZ wr (w.heap.size+3) (.slice ao us.length co) us) /\
   Hid (wr.ownsRow (w.heap.size+3) 151 3 (.slice fH k cs) k (ps.flatMap fun p=>rS p.2 p.1))/\Hid (∀p∈ps,aZ wr (w.heap.size+3) (dg p.2 p.1.bS) p.1.bS)/\Hid (w.grownBy wr none)/\Hid (w.heap.size+3<=wr.heap.size)) (fun i _=>ss.length-(intOf i).toNat)
 case atStart=>exact⟨0,[],none,0,bK _,rfl,by unfold Hid;simp,rW.out,mT.out,CH.out,AQ.out,uB.out,HQ3.out,kq _ _ _ _,fun p hp=>aN hp (by simp),fW.out,by unfold Hid;simp;exact ab2⟩
 case round=>
  clear rW mT CH AQ uB HQ3 fW ab2 c3 f3 l3;obtain⟨k,ps,fH,cs,hk,rfl,SW,HC,HA,HR,Hb,Hi,Ho,Hs,Hf,HG,Cr⟩:=hrel;have a1:wr.cell? ⟨w.heap.size,1,none⟩=some (.slice (some ⟨G,0,none⟩) ss.length ss.length):=HA.out.cell 1;by_cases aK:k<ss.length
  ·obtain⟨s,hs⟩:∃s,ss[k]?=some s:=⟨_,aT aK⟩
   obtain⟨gf,d0,d1,d2,qT⟩:=(HS.out.Z HG.out).get k s hs;have Eg:=FH.out s (bV hs);have pI:Sl wr (.slice (some ⟨gf,0,none⟩) s.bS.length s.bS.length) s.bS:=⟨_,_,rfl,fun i y hy=>⟨_,rfl,by rw[wQ];exact qT i y hy⟩⟩;have SX:=ae (show ∀g:Nat,(ps++[(s,g)]).map (·.1)=ss.take (k+1) from fun g=>by rw[H.kj hs,<-SW.out];simp);have SY:=ae (Y8 (some ⟨gf,0,none⟩) s.bS.length s.bS.length s.bS wr pI (by omega));clear pI qT hs SW;obtain⟨sk,sf,CI⟩:=s;simp only at d0 d1 d2 Eg SY SX;go_wp2_with fail;refine SY.out.mono ?_;rintro e w4⟨rfl,Ei,bm⟩;have e0:=aG bm d0;have e2:=aG bm d2;have e1:=aG bm a1;have C4:=HC.out.kept bm (by simp);have c1:w4.cell? ⟨w.heap.size+1+1,1,none⟩=some (.slice fH k cs):=C4.cell 1;have y0:=cell_regrown e0;have y1:=cell_regrown e1;have y2:=cell_regrown e2;have y3:=cell_regrown c1;have HC4:=ae C4;have Hb4:=ae Ei;have qY:=ae bm;have DQ:=bm.size;have AB:wr.heap.size<w4.heap.size:=Ei.lt;clear d0 d1 d2 a1 e0 e1 e2 c1 C4 Ei bm SY;go_wp2_with fail;refine CC 16 17 (fun w'=>∃p:Regrown,w'=Go.Sort.grow (redrawn w4 p.d) p.os) (w4.drew.alloc (.cells #[.int .i64 sk,.slice (some ⟨wr.heap.size,0,none⟩) sf.length sf.length,.int .i64 CI] 151)) (by kernel_rfl) (by kernel_rfl) (by decide) ⟨⟨w4.drawn+1,#[]⟩,by rw[Go.Sort.grow_empty];rfl⟩ ⟨⟨w4.drawn+1,#[.cells #[.int .i64 sk,.slice (some ⟨wr.heap.size,0,none⟩) sf.length sf.length,.int .i64 CI] 151]⟩,rfl⟩ ?_;simp only[List.take_succ_cons,List.take_zero,List.drop_succ_cons,List.drop_zero]
   repeat (refine yZ (by decide) (fun K hK=>?_);go_simp;refine hK _ ?_;clear hK K)
   refine CD (.slice (some ⟨w4.heap.size,0,none⟩) 1 1) ?hw ?hr ?_
   case hw=>rfl
   case hr=>go_simp
   refine CE ?_;clear y0 y1 y2 y3;have P2:=ae (eW (eW Hs.out qY.out) (gH w4 none));go_wp2_with (at_builtin;refine ng _ rfl _ _ 130 rfl (w.heap.size+3) 151 ip (.agg #[.int .i64 0,.slice none 0 0,.int .i64 0]) 3 40 underlying130 Je EW eV fY rfl (by decide) _ _ _ rfl (lP P2.out _) ⟨w4.heap.size,0,none⟩ 1 1 [.int .i64 sk,.slice (some ⟨wr.heap.size,0,none⟩) sf.length sf.length,.int .i64 CI] rfl rfl ?c1 ?c2 ?c3 ?c4 ?c5 ?_)
   case c1=>exact kb w4.drew 151 #[.int .i64 sk,.slice (some ⟨wr.heap.size,0,none⟩) sf.length sf.length,.int .i64 CI]
   case c2=>intro u hu;simp at hu;rcases hu with rfl|rfl|rfl<;>rfl
   case c3=>unfold maxLen;omega
   case c4=>omega
   case c5=>have:=Cr.out;simp;omega
   intro v' w9 dC cV _;have bC:w4.grownBy w9 (Value.slice fH k cs).ownBlock:=aC (aC (aQ w4 _ _) (gH _ _)) cV;have Q2:=eW Hs.out qY.out;have dR:=mE Q2;obtain⟨FJ,FK,hv⟩:=gY dC;subst hv;have C9:=HC4.out.kept bC (by intro e;have:=dR _ e.symm;omega);have A9:=(HA.out.kept qY.out (by simp)).kept bC (by intro e;have:=dR _ e.symm;omega);have R9:=(HR.out.kept qY.out (by simp)).kept bC (by intro e;have:=dR _ e.symm;omega);have B9:=nV (eW Hb.out qY.out) Q2 (by decide) bC;have I9:aZ w9 (w.heap.size+3) (.slice ai is.length ci) is:=nV (Hi.out.Z qY.out) Q2 (by decide) bC;have U9:aZ w9 (w.heap.size+3) (.slice ao us.length co) us:=nV (Ho.out.Z qY.out) Q2 (by decide) bC;have N9:aZ w9 (w.heap.size+3) (dg wr.heap.size sf) sf:=nV (aZ.tM (base:=w.heap.size+3) (by have:=Cr.out;omega) rfl (by unfold maxLen;omega) Hb4.out) Q2 (by decide) bC;have F9:∀p∈ps++[((⟨sk,sf,CI⟩:Sp),wr.heap.size)],aZ w9 (w.heap.size+3) (dg p.2 p.1.bS) p.1.bS:=by
    intro p hp;rcases List.mem_append.1 hp with hp|hp
    ·exact nV ((Hf.out p hp).Z qY.out) Q2 (by decide) bC
    ·simp at hp;subst hp;exact N9
   have S9:w9.ownsRow (w.heap.size+3) 151 3 (.slice FJ (k+1) FK) (k+1) ((ps++[((⟨sk,sf,CI⟩:Sp),wr.heap.size)]).flatMap fun p=>rS p.2 p.1):=by
    rw[List.flatMap_append];exact dC
   have c9:w9.cell? ⟨w.heap.size+1+1,1,none⟩=some (.slice fH k cs):=C9.cell 1;have f9:=C9.free 1;have l9:=C9.lt;have cC:=bD w9 (w.heap.size+1+1) 1 (.slice FJ (k+1) FK);have Od:Hid (aj (w9.setCell ⟨w.heap.size+1+1,1,none⟩ (.slice FJ (k+1) FK)) (w.heap.size+1+1) 132 #[.slice ab bs.length cb,.slice FJ (k+1) FK,.slice ai is.length ci,.slice ao us.length co,.int .i64 0]):=C9.set 1 (.slice FJ (k+1) FK);have HA9:=ae (A9.kept cC (by intro e;injection e with e;omega));have HR9:=ae (R9.kept cC (by intro e;injection e with e;omega));have oY:=ae (pf B9 cC (by omega));have lr:=ae (I9.kept cC (by omega));have HU9:=ae (U9.kept cC (by omega));have SZ:=ae (fun p hp=>(F9 p hp).kept cC (by omega));have S4:=ae (pf S9 cC (by omega));have jx:=ae (dF (mA (aC HG.out qY.out) bC (fun g hg=>by have:=dR g hg;omega)) cC (by omega));have hs9:w.heap.size+3<=w9.heap.size:=by have:=bC.size;have:=Cr.out;omega
   have aoW:=ae (SX.out wr.heap.size);clear bC Q2 dR C9 A9 R9 B9 I9 U9 N9 F9 S9 cC dC cV HC HA HR Hb Hi Ho Hs Hf HG HC4 Hb4 qY P2 SX;go_wp2;go_roundw
   case rel=>exact⟨k+1,ps++[((⟨sk,sf,CI⟩:Sp),wr.heap.size)],FJ,FK,by omega,by go_num,aoW.out,Od.out,HA9.out,HR9.out,oY.out,lr.out,HU9.out,S4.out,SZ.out,jx.out,by unfold Hid;simp;exact hs9⟩
   case measure=>simp[intOf];omega
  ·obtain rfl:k=ss.length:=by omega
   have HW:Hid (tj wr (w.heap.size+3) ab fH ai ao cb cs ci co bs ss is us):=⟨Hb.out,⟨ps,by have:=SW.out;rwa [jo] at this,Hs.out,Hf.out⟩,Hi.out,Ho.out⟩;have Ec:=ae (setRow_heap wr (w.heap.size+1) _ #[.slice ab bs.length cb,.slice fH ss.length cs,.slice ai is.length ci,.slice ao us.length co,.int .i64 0] 132 _ HR.out);have g5:=vb wr (w.heap.size+1) #[.slice ab bs.length cb,.slice fH ss.length cs,.slice ai is.length ci,.slice ao us.length co,.int .i64 0];have J0:=ae (HW.out.below (show w.heap.size<=w.heap.size+3 by omega) g5 (by omega));have iC:=ae (dF HG.out g5 (by omega));clear g5;go_wp2_with (first|(refine dj rfl 132 _ rfl (w.heap.size+1+1) rfl 132 #[.slice ab bs.length cb,.slice fH ss.length cs,.slice ai is.length ci,.slice ao us.length co,.int .i64 0] (0,0) _ HC.out underlying132 rfl Tryz.uy ?_)|(refine aaY rfl 132 _ _ rfl (w.heap.size+1) #[.slice ab bs.length cb,.slice fH ss.length cs,.slice ai is.length ci,.slice ao us.length co,.int .i64 0] rfl rfl 132 #[.slice none 0 0,.slice none 0 0,.slice none 0 0,.slice none 0 0,.int .i64 0] HR.out Tryz.uy rfl (by simp[Value.oneCell']) ?_));refine bodyPost_ret (v:=.agg #[.slice ab bs.length cb,.slice fH ss.length cs,.slice ai is.length ci,.slice ao us.length co,.int .i64 0]) ?hr rfl ?_
   case hr=>exact results_cell_row Tryz.results80 _ _ (w.heap.size+1) 132 _ (0,0) _ rfl Ec.out underlying132 rfl Tryz.uy
   exact⟨⟨ab,fH,ai,ao,cb,cs,ci,co,rfl,J0.out⟩,iC.out⟩
theorem Tryz.aoX:(prog.info? 132).map (fun i=>(i.zero,i.size,i.bytes))=some (some (.agg #[.slice none 0 0,.slice none 0 0,.slice none 0 0,.slice none 0 0,.int .i64 0]),5,104):=by kernel_rfl
def oD(g0 G:Nat)(gs:List Nat)(g2 g3:Nat)(mark:Int)(bs:List H.Bf)(ss:List Sp)(is us:List Int):Td:=
 ⟨g0,bs.length,G,(gs.zip ss).map fun p=>(p.1,p.2.bS.length),g2,is.length,g3,us.length,mark⟩
def CJ(mark:Int)(bs:List H.Bf)(k:Nat):List H.Bf:=List.replicate k ⟨-mark,-7⟩++bs.drop k
theorem ab5{mark:Int}{bs:List H.Bf}{k:Nat}{x:H.Bf}(h:bs[k]?=some x):(CJ mark bs k)[k]?=some x:=by
 unfold CJ;rw[oL (by simp),vF,Nat.sub_self,List.getElem?_drop,Nat.add_zero];exact h
theorem aoY{mark:Int}{bs:List H.Bf}{k:Nat}{x:H.Bf}(h:bs[k]?=some x):(CJ mark bs k).set k ⟨-mark,-7⟩=CJ mark bs (k+1):=by
 have hl:=M.bP h;unfold CJ;rw[List.set_append_right _ _ (by simp),vF,Nat.sub_self,List.replicate_succ',j4,<-List.getElem_cons_drop hl]
 rfl
theorem aoZ{xs:List H.Bf}{i:Nat}{x:H.Bf}(h:xs[i]?=some x)(a c:Int) :
  (((xs.flatMap gj).toArray.setIfInBounds (i*2) (.int .i64 a)).setIfInBounds (i*2+1) (.int .i64 c))=((xs.set i ⟨a,c⟩).flatMap gj).toArray:=by
 have hl:=M.bP h;have e0:((xs.flatMap gj).toArray.setIfInBounds (i*2) (.int .i64 a))=((xs.set i ⟨a,x.c⟩).flatMap gj).toArray:=by
  rw[List.setIfInBounds_toArray,<-vE gj 2 (fun _=>rfl) xs i 0 x ⟨a,x.c⟩ (.int .i64 a) h (by decide) rfl,Nat.add_zero]
 have h1:(xs.set i ⟨a,x.c⟩)[i]?=some ⟨a,x.c⟩:=by rw[List.getElem?_set_self hl]
 rw[e0,List.setIfInBounds_toArray,vE gj 2 (fun _=>rfl) (xs.set i ⟨a,x.c⟩) i 1 ⟨a,x.c⟩ ⟨a,c⟩ _ h1 (by decide) rfl,List.set_set]
theorem ab6{w:World}{g tt:Nat}{xs:List H.Bf}(hB:aj w g tt (xs.flatMap gj).toArray){i:Nat}{x:H.Bf}(h:xs[i]?=some x) :
  w.cell? ⟨g,i*2,none⟩=some (.int .i64 x.a)/\w.cell? ⟨g,i*2+1,none⟩=some (.int .i64 x.c):=by
 have:=CA hB (M.bP h);have e:xs.getD i H.aV=x:=by rw[List.getD,h];rfl
 rwa [e] at this
theorem ao0(mark:Int)(bs:List H.Bf):(CJ mark bs bs.length).flatMap gj=(List.replicate bs.length ()).flatMap fun _=>NW mark:=by
 unfold CJ;rw[List.drop_length,List.append_nil];generalize bs.length=n
 induction n with
 | zero=>rfl
 | succ n ih=>rw[List.replicate_succ,List.replicate_succ,List.flatMap_cons,List.flatMap_cons,ih];rfl
def tx(p:Value×Value×Value):List Value:=[p.1,p.2.1,p.2.2]
def ab7(p:Nat×Sp):Value×Value×Value:=(.int .i64 p.2.af,dg p.1 p.2.bS,.int .i64 p.2.to)
def Oe(mark:Int)(p:Nat×Sp):Value×Value×Value:=(.int .i64 (-7),dg p.1 p.2.bS,.int .i64 (-mark-3))
def vW(mark:Int)(zs:List (Nat×Sp))(k:Nat):List (Value×Value×Value):=(zs.take k).map (Oe mark)++(zs.drop k).map ab7
theorem ao5{mark:Int}{zs:List (Nat×Sp)}{k:Nat}{z:Nat×Sp}(h:zs[k]?=some z):(vW mark zs k)[k]?=some (ab7 z):=by
 have hl:=M.bP h;unfold vW;have e:((zs.take k).map (Oe mark)).length=k:=by simp;omega
 rw[oL (by omega),e,Nat.sub_self,dY,List.getElem?_drop,Nat.add_zero,h];rfl
theorem ao6{mark:Int}{zs:List (Nat×Sp)}{k:Nat}{z:Nat×Sp}(h:zs[k]?=some z):(vW mark zs k).set k (Oe mark z)=vW mark zs (k+1):=by
 have hl:=M.bP h;unfold vW;have e:((zs.take k).map (Oe mark)).length=k:=by simp;omega
 rw[List.set_append_right _ _ (by omega),e,Nat.sub_self,H.kj h,lH,j4]
 congr 1
 rw[<-List.getElem_cons_drop hl,List.map_cons,List.set_cons_zero];have:zs[k]=z:=by rw[aT hl] at h;injection h
 rw[<-this];simp
theorem ao7(mark:Int)(zs:List (Nat×Sp)):(vW mark zs 0).flatMap tx=zs.flatMap fun p=>rS p.1 p.2:=by
 unfold vW;rw[List.take_zero,List.drop_zero,List.map_nil,List.nil_append,List.flatMap_map]
 rfl
theorem ao8(mark:Int)(zs:List (Nat×Sp)):(vW mark zs zs.length).flatMap tx=(zs.map fun p=>(p.1,p.2.bS.length)).flatMap (NV mark):=by
 unfold vW;rw[jo,List.drop_length,List.map_nil,List.append_nil,List.flatMap_map,List.flatMap_map]
 rfl
theorem ao9{xs:List (Value×Value×Value)}{i:Nat}{x y z t:Value}(h:xs[i]?=some (x,y,z))(c a:Value)(ht:t=a) :
  (((xs.flatMap tx).toArray.setIfInBounds (i*3+2) c).setIfInBounds (i*3) t)=((xs.set i (a,y,c)).flatMap tx).toArray:=by
 subst ht;have hl:=M.bP h;have e0:((xs.flatMap tx).toArray.setIfInBounds (i*3+2) c)=((xs.set i (x,y,c)).flatMap tx).toArray:=by
  rw[List.setIfInBounds_toArray,vE tx 3 (fun _=>rfl) xs i 2 (x,y,z) (x,y,c) c h (by decide) rfl]
 rw[e0];have h1:(xs.set i (x,y,c))[i]?=some (x,y,c):=by rw[List.getElem?_set_self hl]
 have e:=vE tx 3 (fun _=>rfl) (xs.set i (x,y,c)) i 0 (x,y,c) (t,y,c) t h1 (by decide) rfl;rw[Nat.add_zero] at e;rw[List.setIfInBounds_toArray,e,List.set_set]
theorem ab8{w:World}{g tt:Nat}{xs:List (Value×Value×Value)}(hB:aj w g tt (xs.flatMap tx).toArray){i:Nat}{x y z:Value}(h:xs[i]?=some (x,y,z)) :
  w.cell? ⟨g,i*3,none⟩=some x/\w.cell? ⟨g,i*3+1,none⟩=some y/\w.cell? ⟨g,i*3+2,none⟩=some z:=by
 have cK:∀j,j<3->w.cell? ⟨g,i*3+j,none⟩=(tx (x,y,z))[j]?:=by
  intro j hj;rw[hB.cell (i*3+j),nH];exact lL tx 3 (fun _=>rfl) xs i j (x,y,z) h hj
 exact⟨cK 0 (by omega),cK 1 (by omega),cK 2 (by omega)⟩
theorem S5(l:List Int)(v:Int):lfillTo (l.map (Value.int .i64)).toArray (.int .i64 v) (l.map (Value.int .i64)).toArray.size=((List.replicate l.length v).map (Value.int .i64)).toArray:=by
 apply Array.ext_getElem?
 intro i;rcases cF i l.length with c|c
 ·rw[Y7 _ _ _ _ (by simpa using c),ay (by simpa using c),nH,dY,tV,ay c]
  rfl
 ·rw[Array.getElem?_eq_none (by rw[Y6];simpa using c),Array.getElem?_eq_none (by simpa using c)]
theorem mo.S6{w w':World}{B G T:Nat}{gs:List Nat}{ss:List Sp}(h:mo w B G gs ss)(hg:w.grownBy w' (some T))(hT:T<G):mo w' B G gs ss:=
 ⟨h.len,h.out.kept hg (by intro e;injection e with e;omega),h.base,h.AH,h.aS,fun i g s hi hs=>(h.gF i g s hi hs).kept hg (by intro e;injection e with e;have:=h.aS g (bV hi);omega)⟩
def y9(w:World)(mark:Int)(gs:List Nat)(ss:List Sp)(k:Nat):Prop:=
 ∀(j:Nat) g s,gs[j]?=some g->ss[j]?=some s->aj w g 3 ((if j<k then List.replicate s.bS.length (-(mark+4+j)-7) else s.bS).map (Value.int .i64)).toArray
theorem y9.kept{w w':World}{mark:Int}{gs:List Nat}{ss:List Sp}{k:Nat}(h:y9 w mark gs ss k)(hg:w.grownBy w' none):y9 w' mark gs ss k:=fun j g s hj hs=>(h j g s hj hs).kept hg (by simp)
theorem y9.next{w w':World}{mark:Int}{gs:List Nat}{ss:List Sp}{k g:Nat}{s:Sp}(h:y9 w mark gs ss k)(hs:gs.Pairwise (· < ·))(hk:gs[k]?=some g)(jG:ss[k]?=some s)(hg:w.grownBy w' (some g))(hb:aj w' g 3 ((List.replicate s.bS.length (-(mark+4+k)-7)).map (Value.int .i64)).toArray):y9 w' mark gs ss (k+1):=fun j g' s' hj qE=>by
 by_cases e:j=k
 ·subst e
  rw[hk] at hj;injection hj with hj;subst hj;rw[jG] at qE;injection qE with qE;subst qE;rw[ay (by omega)];exact hb
 ·have eF:g'≠g:=by
   have hp:=List.pairwise_iff_getElem.mp hs;have l1:=M.bP hj;have l2:=M.bP hk;rw[aT l1] at hj;injection hj with hj;rw[aT l2] at hk;injection hk with hk;rcases Nat.lt_or_gt_of_ne e with c|c
   ·have:=hp j k l1 l2 c;omega
   ·have:=hp k j l2 l1 c;omega
  have:=(h j g' s' hj qE).kept hg (by intro e;injection e with e;exact eF e);by_cases c:j<k
  ·rw[ay c] at this;rw[ay (by omega)];exact this
  ·rw[ak c] at this;rw[ak (by omega)];exact this
theorem y9.bN{w w':World}{mark:Int}{gs:List Nat}{ss:List Sp}{k G:Nat}(h:y9 w mark gs ss k)(hg:w.grownBy w' (some G))(hG:∀g∈gs,G<g):y9 w' mark gs ss k:=fun j g s hj hs=>(h j g s hj hs).kept hg (by intro e;injection e with e;have:=hG g (bV hj);omega)
theorem mo.ab9{w w':World}{B G T:Nat}{gs:List Nat}{ss:List Sp}(h:mo w B G gs ss)(hg:w.grownBy w' (some T))(hT:G<T)(hs:∀g∈gs,g<T):mo w' B G gs ss:=
 ⟨h.len,h.out.kept hg (by intro e;injection e with e;omega),h.base,h.AH,h.aS,fun i g s hi jG=>(h.gF i g s hi jG).kept hg (by intro e;injection e with e;have:=hs g (bV hi);omega)⟩
theorem apa(b base:Nat)(vp vl vw va vn ve vr vt vo:Value)(n:Nat)(mark:Int)(xs:List Value)(g0 G:Nat)(gs:List Nat)(g2 g3 B:Nat)(mk:Int)(bs:List H.Bf)(ss:List Sp)(is us:List Int)(w:World)
  (hL:LW w b vp vl vw va vn ve vr vt (.int .i64 mark) vo) (hT:w.ownsRow base 132 5 vt n xs)
  (hB:aj w g0 116 (bs.flatMap gj).toArray) (hS:mo w B G gs ss) (hI:aj w g2 3 (is.map (Value.int .i64)).toArray) (hO:aj w g3 3 (us.map (Value.int .i64)).toArray)
  (o0:g0<G) (o1:b<g0) (o2:∀g,vt.ownBlock=some g->g<g0/\g≠b) (o3:∀g∈gs,g<g2) (o4:G<g2) (o5:g2<g3) (yK:base<=w.heap.size)
  (m0:0<=mark) (m1:mark<=1000000000000) (hn:n<=1000000000) (nb:bs.length<=1000) (ns:ss.length<=1000) (ni:is.length<=1000) (no:us.length<=1000) (nf:∀s∈ss,s.bS.length<=1000) :
  Calls prog 82 #[.pointer (some ⟨b,0,none⟩),.agg #[.slice (some ⟨g0,0,none⟩) bs.length bs.length,.slice (some ⟨G,0,none⟩) ss.length ss.length,.slice (some ⟨g2,0,none⟩) is.length is.length,.slice (some ⟨g3,0,none⟩) us.length us.length,.int .i64 mk]] w fun e w'=>e=.returned (.tuple #[])/\∃gt ct,
   LW w' b vp vl vw va vn ve vr (.slice (some ⟨gt,0,none⟩) (n+1) ct) (.int .i64 (mark+4+ss.length)) vo/\w'.ownsRow base 132 5 (.slice (some ⟨gt,0,none⟩) (n+1) ct) (n+1) (xs++(oD g0 G gs g2 g3 mark bs ss is us).val)/\qW w' (oD g0 G gs g2 g3 mark bs ss is us) /\
   (vt.ownBlock=some gt\/w.heap.size<gt)/\Fr (fun k=>k=b\/vt.ownBlock=some k\/k∈(oD g0 G gs g2 g3 mark bs ss is us).iE) w w':=by
 obtain⟨ip,Je,EW,eV,fY⟩:=info_parts Tryz.aoX;have dh:=hL.lt;have axf:=hB.lt;have axg:=hO.lt;have Of:=ae o2;have J8:=ae o3;have FH:=ae nf;have HT:=ae hT;have hl8:w.cell? ⟨b,8,none⟩=some (.int .i64 mark):=hL.cell 8;obtain⟨W0,qj⟩:∃W,Hid (w.alloc (.cells #[.slice (some ⟨g0,0,none⟩) bs.length bs.length,.slice (some ⟨G,0,none⟩) ss.length ss.length,.slice (some ⟨g2,0,none⟩) is.length is.length,.slice (some ⟨g3,0,none⟩) us.length us.length,.int .i64 mark] 132)=W):=⟨_,rfl⟩;have A0:=aj.bB w 132 #[.slice (some ⟨g0,0,none⟩) bs.length bs.length,.slice (some ⟨G,0,none⟩) ss.length ss.length,.slice (some ⟨g2,0,none⟩) is.length is.length,.slice (some ⟨g3,0,none⟩) us.length us.length,.int .i64 mark];have GW:=aQ w (.cells #[.slice (some ⟨g0,0,none⟩) bs.length bs.length,.slice (some ⟨G,0,none⟩) ss.length ss.length,.slice (some ⟨g2,0,none⟩) is.length is.length,.slice (some ⟨g3,0,none⟩) us.length us.length,.int .i64 mark] 132) none;have FL:(w.alloc (.cells #[.slice (some ⟨g0,0,none⟩) bs.length bs.length,.slice (some ⟨G,0,none⟩) ss.length ss.length,.slice (some ⟨g2,0,none⟩) is.length is.length,.slice (some ⟨g3,0,none⟩) us.length us.length,.int .i64 mark] 132)).heap.size=w.heap.size+1:=by simp
 rw[qj.out] at A0 GW FL;have L1:=hL.kept GW (by simp);have HB:=ae (hB.kept GW (by simp));have HI:=ae (hI.kept GW (by simp));have HO:=ae (hO.kept GW (by simp));have HSs:=ae (hS.Z GW);have y8:W0.cell? ⟨b,8,none⟩=some (.int .i64 mark):=L1.cell 8;have y1:W0.cell? ⟨w.heap.size,1,none⟩=some (.slice (some ⟨G,0,none⟩) ss.length ss.length):=A0.cell 1;have Jy:=ae A0;have yE:=ae L1;have um:=ae GW;have w1:IntKind.i64.wrap (mark+4)=mark+4:=by rw[cS];omega
 have w2:IntKind.i64.wrap (mark+4+(ss.length:Int))=mark+4+(ss.length:Int):=by rw[cS];omega
 clear hL hT hB hS hI hO o2 o3 nf A0 GW L1;go_enter func82,ntmps82;go_wp2;rw[qj.out];clear hl8;go_still_tail 10,(by kernel_rfl);show wpList _ _ _ _ _ W0.drew;have eH:=gH W0 none;have z8:=aG eH y8;have xD:=ae (Jy.out.kept eH (by simp));have qP:=yE.out.kept eH (by simp);have j6:=ae (aC um.out eH);have nj:=ae (HB.out.kept eH (by simp));have kP:=ae (HI.out.kept eH (by simp));have Cm:=ae (HO.out.kept eH (by simp));have jw:=ae (HSs.out.Z eH);have hWd:W0.drew.heap.size=w.heap.size+1:=FL;clear y8 y1 eH Jy yE um HB HI HO HSs qj FL;generalize W0.drew=W1 at *;have f8:=qP.free 8;have cC:=bD W1 b 8 (.int .i64 (mark+4+ss.length));have qg:Hid (LW (W1.setCell ⟨b,8,none⟩ (.int .i64 (mark+4+ss.length))) b vp vl vw va vn ve vr vt (.int .i64 (mark+4+ss.length)) vo):=qP.set 8 (.int .i64 (mark+4+ss.length));have mS:=ae (xD.out.kept cC (by intro e;injection e with e;omega));have iV:=ae (nj.out.kept cC (by intro e;injection e with e;omega));have jE:=ae (kP.out.kept cC (by intro e;injection e with e;omega));have Cw:=ae (Cm.out.kept cC (by intro e;injection e with e;omega));have hZ:=ae (jw.out.S6 cC (by omega));have sS:=ae ((Fr.uw j6.out).mono (S':=fun k=>k=b\/k∈(oD g0 G gs g2 g3 mark bs ss is us).iE) (fun k _ h=>by cases h) |>.iI cC (fun g hg=>.inr (.inl (by injection hg with hg;exact hg.symm))));have hlb:=qP.lt;clear qP cC xD nj kP Cm jw j6;go_wp2;clear z8 f8 hlb;have axh:(W1.setCell ⟨b,8,none⟩ (.int .i64 (mark+4+ss.length))).heap.size=w.heap.size+1:=by rw[yi];exact hWd
 generalize W1.setCell ⟨b,8,none⟩ (.int .i64 (mark+4+ss.length))=W2 at *;clear hWd;go_loopw[4] (fun i wr=>∃k:Nat,k<=bs.length/\i=.int .i64 k/\aj wr g0 116 ((CJ mark bs k).flatMap gj).toArray/\W2.grownBy wr (some g0)) (fun i _=>bs.length-(intOf i).toNat)
 case atStart=>exact⟨0,bK _,rfl,iV.out,gL _ _⟩
 case round=>
  clear iV;obtain⟨k,hk,rfl,bU,aF⟩:=hrel;have Ak:=mS.out.kept aF (by intro e;injection e with e;omega);have a0:wr.cell? ⟨w.heap.size,0,none⟩=some (.slice (some ⟨g0,0,none⟩) bs.length bs.length):=Ak.cell 0;by_cases aK:k<bs.length
  ·have a4:wr.cell? ⟨w.heap.size,4,none⟩=some (.int .i64 mark):=Ak.cell 4
   obtain⟨x,hx⟩:∃x,bs[k]?=some x:=⟨_,aT aK⟩;obtain⟨d0,d1⟩:=ab6 bU (ab5 hx);have f0:=bU.free (k*2);have f1:=bU.free (k*2+1);have AB:=bU.lt;have fZ:=ae ((bU.set (k*2) (.int .i64 (-mark))).set (k*2+1) (.int .i64 (-7)));rw[aoZ (ab5 hx),aoY hx] at fZ;have fW:=ae (aC aF (aC (bD wr g0 (k*2) (.int .i64 (-mark))) (bD _ g0 (k*2+1) (.int .i64 (-7)))));have w3:IntKind.i64.wrap (-mark) = -mark:=by rw[cS];omega
   clear hx bU aF Ak;go_wp2;go_roundw
   case rel=>exact⟨k+1,by omega,by go_num,fZ.out,fW.out⟩
   case measure=>simp[intOf];omega
  ·obtain rfl:k=bs.length:=by omega
   have a2:wr.cell? ⟨w.heap.size,2,none⟩=some (.slice (some ⟨g2,0,none⟩) is.length is.length):=Ak.cell 2;have a4:wr.cell? ⟨w.heap.size,4,none⟩=some (.int .i64 mark):=Ak.cell 4;rw[ao0] at bU;have fZ:=ae bU;have mT:=ae Ak;have oV:=ae (qg.out.kept aF (by intro e;injection e with e;omega));have mi:=ae (jE.out.kept aF (by intro e;injection e with e;omega));have AQ:=ae (Cw.out.kept aF (by intro e;injection e with e;omega));have lA:=ae (hZ.out.S6 aF (by omega));have xM:=ae (sS.out.iI aF (fun g hg=>.inr (.inr (by injection hg with hg;subst hg;simp[Td.iE,oD]))));have Jn:w.heap.size+1<=wr.heap.size:=by have:=aF.size;omega
   have e1:(is.map (Value.int .i64)).toArray.size=is.length:=by simp
   have e2:(us.map (Value.int .i64)).toArray.size=us.length:=by simp
   have jk:=RT g2 is.length (is.map (Value.int .i64)).toArray (mark+1) wr mi.out (fun i hi=>by rw[e1] at hi;exact⟨is[i],by simp[hi]⟩) (by omega) (by omega) (by omega);rw[S5,e1] at jk;have HC:=ae jk;clear bU aF Ak mS qg jE Cw hZ sS mi jk;go_wp2_with fail;refine HC.out.mono ?_;rintro e w4⟨rfl,lO,bm⟩;have qV:=mT.out.kept bm (by intro e;injection e with e;omega);have b3:w4.cell? ⟨w.heap.size,3,none⟩=some (.slice (some ⟨g3,0,none⟩) us.length us.length):=qV.cell 3;have b4:w4.cell? ⟨w.heap.size,4,none⟩=some (.int .i64 mark):=qV.cell 4;have jr:=ae (fZ.out.kept bm (by intro e;injection e with e;omega));have CK:=ae (oV.out.kept bm (by intro e;injection e with e;omega));have HO4:=AQ.out.kept bm (by intro e;injection e with e;omega);have kE:=ae (lA.out.ab9 bm (by omega) J8.out);have kl:=ae lO;have HF4:=ae (xM.out.iI bm (fun g hg=>.inr (.inr (by injection hg with hg;subst hg;simp[Td.iE,oD]))));have rm:w.heap.size+1<=w4.heap.size:=by have:=bm.size;omega
   have iW:=RT g3 us.length (us.map (Value.int .i64)).toArray (mark+2) w4 HO4 (fun i hi=>by rw[e2] at hi;exact⟨us[i],by simp[hi]⟩) (by omega) (by omega) (by omega);rw[S5,e2] at iW;have HD:=ae iW;have acg:=ae qV;clear HC iW lO bm qV HO4 mT fZ oV AQ lA xM a0 a2 a4;go_wp2_with fail;refine HD.out.mono ?_;rintro e w5⟨rfl,GS,cJ⟩;have mU:=ae (acg.out.kept cJ (by intro e;injection e with e;omega));have ow:=ae (jr.out.kept cJ (by intro e;injection e with e;omega));have Nb:=ae (CK.out.kept cJ (by intro e;injection e with e;omega));have rL:=ae (kl.out.kept cJ (by intro e;injection e with e;omega));have vT:=kE.out.ab9 cJ (by omega) (fun g hg=>by have:=J8.out g hg;omega);have HO5:=ae GS;have Og:=ae (HF4.out.iI cJ (fun g hg=>.inr (.inr (by injection hg with hg;subst hg;simp[Td.iE,oD]))));have xu:w.heap.size+1<=w5.heap.size:=by have:=cJ.size;omega
   have hz:(gs.zip ss).length=ss.length:=by rw[List.length_zip,vT.len];omega
   have HX5:Hid (aj w5 G 151 ((vW mark (gs.zip ss) 0).flatMap tx).toArray):=by rw[ao7,<-abC];exact vT.out
   have Es:=ae vT;have Hz:=ae hz;clear HD GS cJ acg jr CK kl kE HF4 b3 b4 vT hz;go_wp2;go_loopw[5] (fun i wr=>∃k:Nat,k<=ss.length/\i=.int .i64 k/\Hid (aj wr G 151 ((vW mark (gs.zip ss) k).flatMap tx).toArray)/\Hid (y9 wr mark gs ss k)/\Hid (Fr (fun q=>q=G\/q∈gs) w5 wr)) (fun i _=>ss.length-(intOf i).toNat)
   case atStart=>exact⟨0,bK _,rfl,HX5.out,fun j g s hg hs=>by rw[ak (by omega)];exact Es.out.gF j g s hg hs,Fr.refl _ _⟩
   case round=>
    clear HX5;obtain⟨k,hk,rfl,HX,J9,qZ⟩:=hrel;have Ak:=qZ.out.gF mU.out (fun h=>by rcases h with h|h;omega;have:=J8.out _ h;omega);have a1:wr.cell? ⟨w.heap.size,1,none⟩=some (.slice (some ⟨G,0,none⟩) ss.length ss.length):=Ak.cell 1;have axi:=qZ.out.size;by_cases aK:k<ss.length
    ·obtain⟨s,hs⟩:∃s,ss[k]?=some s:=⟨_,aT aK⟩
     obtain⟨g,hg⟩:∃g,gs[k]?=some g:=⟨_,aT (by rw[Es.out.len];exact aK)⟩;have hz:(gs.zip ss)[k]?=some (g,s):=by rw[List.getElem?_zip_eq_some];exact⟨hg,hs⟩
     have xG:=bV hg;have aM:=J8.out g xG;have hgG:=Es.out.aS g xG;have Eg:=FH.out s (bV hs);have a4:wr.cell? ⟨w.heap.size,4,none⟩=some (.int .i64 mark):=Ak.cell 4;have S8:=ao5 (mark:=mark) hz;obtain⟨d0,d1,d2⟩:=ab8 HX.out S8;have vB:=J9.out k g s hg hs;rw[ak (by omega)] at vB;have w4:IntKind.i64.wrap (mark+4)=mark+4:=by rw[cS];omega
     have w5':IntKind.i64.wrap (mark+4+(k:Int))=mark+4+(k:Int):=by rw[cS];omega
     have w6:IntKind.i64.wrap (-mark) = -mark:=by rw[cS];omega
     have w7:IntKind.i64.wrap (-mark-3) = -mark-3:=by rw[cS];omega
     have e3:(s.bS.map (Value.int .i64)).toArray.size=s.bS.length:=by simp
     have eH:=gH wr none;have jk:=RT g s.bS.length (s.bS.map (Value.int .i64)).toArray (mark+4+k) wr.drew (vB.kept eH (by simp)) (fun i hi=>by rw[e3] at hi;exact⟨s.bS[i],by simp[hi]⟩) (by omega) (by omega) (by omega);rw[S5,e3] at jk;have HC:=ae jk;have Oh:=ae (ao6 (mark:=mark) hz);have Hrg:=ae S8;have Hg:=ae hg;have Hs:=ae hs;have Hgm:=ae xG;have Xd:=ae (HX.out.kept eH (by simp));have Fd:=ae (qZ.out.iI (S:=fun q=>q=G\/q∈gs) eH (fun g h=>by cases h));have ack:=ae (J9.out.kept eH);have Ad:=ae (Ak.kept eH (by simp));clear eH jk vB hz hg hs xG S8 HX J9 qZ Ak;obtain⟨sk,sf,CI⟩:=s;simp only[dg] at d0 d1 d2;simp only at Eg HC e3;go_wp2_with fail;go_still_tail 11,(by kernel_rfl);show wpList _ _ _ _ _ wr.drew;clear a1 a4 d0 d1 d2;generalize wr.drew=wd at *;go_wp2_with fail;refine HC.out.mono ?_;rintro e w8⟨rfl,hb8,oU⟩;have X8:=Xd.out.kept oU (by intro e;injection e with e;omega);have A8:=Ad.out.kept oU (by intro e;injection e with e;omega);have a1:w8.cell? ⟨w.heap.size,1,none⟩=some (.slice (some ⟨G,0,none⟩) ss.length ss.length):=A8.cell 1;have a4:w8.cell? ⟨w.heap.size,4,none⟩=some (.int .i64 mark):=A8.cell 4;obtain⟨d0,d1,d2⟩:=ab8 X8 Hrg.out;have f0:=X8.free (k*3);have f2:=X8.free (k*3+2);have hl8:=X8.lt;have acn:=ae (ack.out.next Es.out.AH Hg.out Hs.out oU hb8);have s1:=bD w8 G (k*3+2) (.int .i64 (-mark-3));have s2:=bD (w8.setCell ⟨G,k*3+2,none⟩ (.int .i64 (-mark-3))) G (k*3) (.int .i64 (-7));have Ta:=ae ((X8.set (k*3+2) (.int .i64 (-mark-3))).set (k*3) (.int .i64 (-7)));rw[ao9 Hrg.out _ (.int .i64 (-7)) rfl] at Ta;have apd:Hid (aj ((w8.setCell ⟨G,k*3+2,none⟩ (.int .i64 (-mark-3))).setCell ⟨G,k*3,none⟩ (.int .i64 (-7))) G 151 ((vW mark (gs.zip ss) (k+1)).flatMap tx).toArray):=by
      rw[<-Oh.out];exact Ta.out
     have ape:=ae (acn.out.bN (aC s1 s2) (fun g h=>by have:=Es.out.aS g h;omega));have apf:=ae ((Fd.out.iI oU (fun q hq=>.inr (.inr (by injection hq with hq;subst hq;exact Hgm.out)))).iI (aC s1 s2) (fun q hq=>.inr (.inl (by injection hq with hq;exact hq.symm))));have eF:w.heap.size≠G:=by omega
     clear X8 A8 hb8 oU Ta acn s1 s2 Xd Ad Fd ack Oh HC;go_wp2;go_roundw
     case rel=>exact⟨k+1,by omega,by go_num,apd.out,ape.out,apf.out⟩
     case measure=>simp[intOf];omega
    ·obtain rfl:k=ss.length:=by omega
     have Tb:∀q,(q=G\/q∈gs)->q∈(oD g0 G gs g2 g3 mark bs ss is us).iE:=by
      intro q hq;rcases hq with rfl|hq
      ·simp[Td.iE,oD]
      ·unfold Td.iE oD
       iterate 4 refine sL _ ?_
       obtain⟨j,hj⟩:=mM hq;have ke:=M.bP hj;obtain⟨s,hs⟩:∃s,ss[j]?=some s:=⟨_,aT (by rw[<-Es.out.len];exact ke)⟩;have hz:(gs.zip ss)[j]?=some (q,s):=by rw[List.getElem?_zip_eq_some];exact⟨hj,hs⟩
       simp only[List.map_map];exact List.mem_map.mpr ⟨(q,s),bV hz,rfl⟩
     have lX:∀q,(q=G\/q∈gs)->g0<q/\q<g2:=by
      intro q hq;rcases hq with rfl|hq
      ·exact⟨o0,o4⟩
      ·have:=J8.out q hq;have:=Es.out.aS q hq;omega
     have vB:∀q,q∈(oD g0 G gs g2 g3 mark bs ss is us).iE->g0<=q/\q<=g3:=by
      intro q hq;simp only[Td.iE,oD,List.mem_cons,List.map_map] at hq;rcases hq with rfl|rfl|rfl|rfl|hq
      ·omega
      ·omega
      ·omega
      ·omega
      ·obtain⟨z,hz,rfl⟩:=List.mem_map.mp hq
       have:=lX z.1 (.inr (List.of_mem_zip hz).1);show g0<=z.1/\z.1<=g3;omega
     have Tc:=ae (Og.out.trans (qZ.out.mono (S':=fun k=>k=b\/k∈(oD g0 G gs g2 g3 mark bs ss is us).iE) (fun q _ h=>.inr (Tb q h))));have Et:=ae (Tc.out.jO HT.out (fun g hg h=>by
      have h2:=Of.out g hg;rcases h with h|h
      ·exact h2.2 h
      ·have:=vB g h;omega))
     have Lr:=qZ.out.gF Nb.out (fun h=>by have:=lX _ h;omega);have Br:=ae (qZ.out.gF ow.out (fun h=>by have:=lX _ h;omega));have Ir:=ae (qZ.out.gF rL.out (fun h=>by have:=lX _ h;omega));have Or:=ae (qZ.out.gF HO5.out (fun h=>by have:=lX _ h;omega));have aco:Hid (qW wr (oD g0 G gs g2 g3 mark bs ss is us)):=by
      refine⟨m0,m1,⟨nb,?_,ni,no⟩,?_,Br.out,?_,Ir.out,Or.out,?_⟩
      ·show((gs.zip ss).map _).length<=1000;rw[jh,Hz.out];exact ns
      ·intro p hp
       obtain⟨z,hz,rfl⟩:=List.mem_map.mp hp;exact FH.out z.2 (List.of_mem_zip hz).2
      ·have e:=HX.out
       rw[<-Hz.out,ao8] at e;exact e
      ·intro q p hp
       have iH:((gs.zip ss).map fun p=>(p.1,p.2.bS.length))[q]?=some p:=hp;rw[dY] at iH;obtain⟨z,hz,rfl⟩:=Option.map_eq_some_iff.1 iH;rw[List.getElem?_zip_eq_some] at hz;have e:=J9.out q z.1 z.2 hz.1 hz.2;rw[ay (M.bP hz.2)] at e;exact e
     have c7:wr.cell? ⟨b,7,none⟩=some vt:=Lr.cell 7;have a0:wr.cell? ⟨w.heap.size,0,none⟩=some (.slice (some ⟨g0,0,none⟩) bs.length bs.length):=Ak.cell 0;have a2:wr.cell? ⟨w.heap.size,2,none⟩=some (.slice (some ⟨g2,0,none⟩) is.length is.length):=Ak.cell 2;have a3:wr.cell? ⟨w.heap.size,3,none⟩=some (.slice (some ⟨g3,0,none⟩) us.length us.length):=Ak.cell 3;have a4:wr.cell? ⟨w.heap.size,4,none⟩=some (.int .i64 mark):=Ak.cell 4;have y0:=cell_regrown a0;have y1:=cell_regrown a1;have y2:=cell_regrown a2;have y3:=cell_regrown a3;have y4:=cell_regrown a4;have y7:=cell_regrown c7;have Eu:=ae Lr;have Hbk:=ae vB;have axl:w.heap.size+1<=wr.heap.size:=by omega
     go_wp2_with fail;clear a0 a1 a2 a3 a4 c7 Lr Br Ir Or qZ J9 HX Ak Tb lX vB mU ow Nb rL HO5 Og;refine CC 5 6 (fun w'=>∃p:Regrown,w'=Go.Sort.grow (redrawn wr p.d) p.os) (wr.drew.alloc (.cells #[.slice (some ⟨g0,0,none⟩) bs.length bs.length,.slice (some ⟨G,0,none⟩) ss.length ss.length,.slice (some ⟨g2,0,none⟩) is.length is.length,.slice (some ⟨g3,0,none⟩) us.length us.length,.int .i64 mark] 132)) (by kernel_rfl) (by kernel_rfl) (by decide) ⟨⟨wr.drawn+1,#[]⟩,by rw[Go.Sort.grow_empty];rfl⟩ ⟨⟨wr.drawn+1,#[.cells #[.slice (some ⟨g0,0,none⟩) bs.length bs.length,.slice (some ⟨G,0,none⟩) ss.length ss.length,.slice (some ⟨g2,0,none⟩) is.length is.length,.slice (some ⟨g3,0,none⟩) us.length us.length,.int .i64 mark] 132]⟩,rfl⟩ ?_;simp only[List.take_succ_cons,List.take_zero,List.drop_succ_cons,List.drop_zero]
     repeat (refine yZ (by decide) (fun K hK=>?_);go_simp;refine hK _ ?_;clear hK K)
     refine CD (.slice (some ⟨wr.heap.size,0,none⟩) 1 1) ?hw ?hr ?_
     case hw=>rfl
     case hr=>go_simp
     refine CE ?_;clear y0 y1 y2 y3 y4 y7;have P2:=ae (eW Et.out (gH wr none));go_wp2_with (at_builtin;refine wpList_append_lies _ rfl _ _ 56 rfl base 132 ip (.agg #[.slice none 0 0,.slice none 0 0,.slice none 0 0,.slice none 0 0,.int .i64 0]) 5 104 underlying56 Je EW eV fY rfl (by decide) _ _ _ rfl (lP P2.out _) ⟨wr.heap.size,0,none⟩ 1 1 [.slice (some ⟨g0,0,none⟩) bs.length bs.length,.slice (some ⟨G,0,none⟩) ss.length ss.length,.slice (some ⟨g2,0,none⟩) is.length is.length,.slice (some ⟨g3,0,none⟩) us.length us.length,.int .i64 mark] rfl rfl ?c1 ?c2 ?c3 ?c4 ?c5 ?c6 (wr.heap.size+1) ?c7 ?_)
     case c1=>exact kb wr.drew 132 #[.slice (some ⟨g0,0,none⟩) bs.length bs.length,.slice (some ⟨G,0,none⟩) ss.length ss.length,.slice (some ⟨g2,0,none⟩) is.length is.length,.slice (some ⟨g3,0,none⟩) us.length us.length,.int .i64 mark]
     case c2=>intro u hu;simp at hu;rcases hu with rfl|rfl|rfl|rfl|rfl<;>rfl
     case c3=>decide
     case c4=>unfold maxLen;omega
     case c5=>omega
     case c6=>simp;omega
     case c7=>simp
     intro gt ct w9 cB cV jA acq;have bC:wr.grownBy w9 vt.ownBlock:=aC (aC (aQ wr _ _) (gH _ _)) cV;have eF:∀q,g0<=q->some q≠vt.ownBlock:=fun q hq e=>by have:=Of.out q e.symm;omega
     have L9:=Eu.out.kept bC (fun e=>(Of.out b e.symm).2 rfl);have S9:=ae (aco.out.kept (Fr.uw bC) (fun g hg e=>eF g (Hbk.out g hg).1 e));have c9:w9.cell? ⟨b,7,none⟩=some vt:=L9.cell 7;have f9:=L9.free 7;have l9:=L9.lt;have gtb:gt≠b:=by
      rcases jA with h|h
      ·exact(Of.out gt h).2
      ·omega
     have cC:=bD w9 b 7 (.slice (some ⟨gt,0,none⟩) (n+1) ct);have HL9:Hid (LW (w9.setCell ⟨b,7,none⟩ (.slice (some ⟨gt,0,none⟩) (n+1) ct)) b vp vl vw va vn ve vr (.slice (some ⟨gt,0,none⟩) (n+1) ct) (.int .i64 (mark+4+ss.length)) vo):=L9.set 7 (.slice (some ⟨gt,0,none⟩) (n+1) ct);have HO9:=ae (iJ cB cC (fun g hg e=>by have h1:some gt=some g:=hg;injection h1 with h1;injection e with e;exact gtb (h1.trans e)));have S4:=ae (S9.out.kept (Fr.uw cC) (fun g hg e=>by injection e with e;have:=(Hbk.out g hg).1;omega));have SZ:=ae (((Tc.out.mono (S':=fun k=>k=b\/vt.ownBlock=some k\/k∈(oD g0 G gs g2 g3 mark bs ss is us).iE) (fun q _ h=>by rcases h with h|h;exact .inl h;exact .inr (.inr h))).iI bC (fun g hg=>.inr (.inr (.inl hg)))).iI cC (fun g hg=>.inr (.inl (by injection hg with hg;exact hg.symm))));have vX:Hid (vt.ownBlock=some gt\/w.heap.size<gt):=jA.imp id (fun h=>by omega);clear cB cV jA bC L9 S9 cC eF gtb Eu Et P2 aco Tc;go_wp2;go_end0;exact⟨rfl,gt,ct,HL9.out,by unfold Td.val oD;rw[jh,Hz.out];exact HO9.out,S4.out,vX.out,SZ.out⟩
end Go.Proofs.YtcnhfffgbamonabGreat
