import Derived.Test.YtcnhfffgbamonaaGreatZ23
import Derived.Test.YtcnhfffgbamonaaGreatZ30
set_option maxRecDepth 100000
set_option maxHeartbeats 6400000
namespace Go.Proofs.YtcnhfffgbamonaaGreat
open Go.Proofs.Tryz
open RowKit
theorem ap0(bs:List H.Bf):(bs.flatMap gm).length=bs.length*2:=by
 rw[List.length_flatMap]
 induction bs with
 |nil=>rfl
 |cons x xs ih=>simp[gm] at ih ⊢;omega
theorem tJ.below{w w':World}{B B' T:Nat}{ab fJ ai ao:Option Addr}{cb cs ci co:Nat}{bs:List H.Bf}{ss:List Sp}{is us:List Int}(h:tJ w B ab fJ ai ao cb cs ci co bs ss is us)(hb:B'<=B)(hg:w.grownBy w' (some T))(hT:T<B):tJ w' B' ab fJ ai ao cb cs ci co bs ss is us:=by
 obtain⟨h1,⟨ps,p1,p2,p3⟩,h3,h4⟩:=h;exact⟨nC (px h1 hg hT) hb,⟨ps,p1,nC (px p2 hg hT) hb,fun p hp=>((p3 p hp).kept hg hT).mono hb⟩,(h3.kept hg hT).mono hb,(h4.kept hg hT).mono hb⟩
theorem TB{w:World}{g tt:Nat}{xs:List Value}(h:aj w g tt xs.toArray):∀j u,xs[j]?=some u->w.cell? ((⟨g,0,none⟩:Addr).add j)=some u:=fun j u hu=>by
 rw[vy,h.cell j,nP];exact hu
theorem ap1(g0 G g2 g3:Nat)(mk:Int)(bs:List H.Bf)(ss:List Sp)(is us:List Int)(w:World)
  (hB:aj w g0 125 (bs.flatMap gm).toArray) (hS:zB w (.slice (some ⟨G,0,none⟩) ss.length ss.length) ss) (hI:aj w g2 3 (is.map (Value.int .i64)).toArray) (hO:aj w g3 3 (us.map (Value.int .i64)).toArray)
  (nb:bs.length<=1000) (ns:ss.length<=1000) (ni:is.length<=1000) (no:us.length<=1000) (nf:∀s∈ss,s.bS.length<=1000):
 Calls prog 81 #[.agg #[.slice (some ⟨g0,0,none⟩) bs.length bs.length,.slice (some ⟨G,0,none⟩) ss.length ss.length,.slice (some ⟨g2,0,none⟩) is.length is.length,.slice (some ⟨g3,0,none⟩) us.length us.length,.int .i64 mk]] w fun e w'=>(∃ab fJ ai ao cb cs ci co,e=.returned (.agg #[.slice ab bs.length cb,.slice fJ ss.length cs,.slice ai is.length ci,.slice ao us.length co,.int .i64 0])/\tJ w' w.heap.size ab fJ ai ao cb cs ci co bs ss is us)/\w.grownBy w' none:=by
 obtain⟨ib,hib,xT,ze,Ch⟩:=info_parts Tryz.Ss;obtain⟨ii,Nk,mB,hi1,TC⟩:=info_parts Tryz.oO;obtain⟨ip,JJ,Fo,eW,gj⟩:=info_parts Tryz.ab8;have zn:(((w.alloc (.cells #[.slice (some ⟨g0,0,none⟩) bs.length bs.length,.slice (some ⟨G,0,none⟩) ss.length ss.length,.slice (some ⟨g2,0,none⟩) is.length is.length,.slice (some ⟨g3,0,none⟩) us.length us.length,.int .i64 mk] 119)).alloc (.cells #[.slice none 0 0,.slice none 0 0,.slice none 0 0,.slice none 0 0,.int .i64 0] 119)).alloc (.cells #[.slice none 0 0,.slice none 0 0,.slice none 0 0,.slice none 0 0,.int .i64 0] 119)).heap.size=w.heap.size+3:=by simp
 have G0:=ae (IB w (.cells #[.slice (some ⟨g0,0,none⟩) bs.length bs.length,.slice (some ⟨G,0,none⟩) ss.length ss.length,.slice (some ⟨g2,0,none⟩) is.length is.length,.slice (some ⟨g3,0,none⟩) us.length us.length,.int .i64 mk] 119) (.cells #[.slice none 0 0,.slice none 0 0,.slice none 0 0,.slice none 0 0,.int .i64 0] 119) (.cells #[.slice none 0 0,.slice none 0 0,.slice none 0 0,.slice none 0 0,.int .i64 0] 119) none);have BA:=ae (((aj.bA w 119 #[.slice (some ⟨g0,0,none⟩) bs.length bs.length,.slice (some ⟨G,0,none⟩) ss.length ss.length,.slice (some ⟨g2,0,none⟩) is.length is.length,.slice (some ⟨g3,0,none⟩) us.length us.length,.int .i64 mk]).alloc (.cells #[.slice none 0 0,.slice none 0 0,.slice none 0 0,.slice none 0 0,.int .i64 0] 119)).alloc (.cells #[.slice none 0 0,.slice none 0 0,.slice none 0 0,.slice none 0 0,.int .i64 0] 119));have BR:=ae ((aj.yA w (.cells #[.slice (some ⟨g0,0,none⟩) bs.length bs.length,.slice (some ⟨G,0,none⟩) ss.length ss.length,.slice (some ⟨g2,0,none⟩) is.length is.length,.slice (some ⟨g3,0,none⟩) us.length us.length,.int .i64 mk] 119) 119 #[.slice none 0 0,.slice none 0 0,.slice none 0 0,.slice none 0 0,.int .i64 0]).alloc (.cells #[.slice none 0 0,.slice none 0 0,.slice none 0 0,.slice none 0 0,.int .i64 0] 119))
 have BC:Hid (aj (((w.alloc (.cells #[.slice (some ⟨g0,0,none⟩) bs.length bs.length,.slice (some ⟨G,0,none⟩) ss.length ss.length,.slice (some ⟨g2,0,none⟩) is.length is.length,.slice (some ⟨g3,0,none⟩) us.length us.length,.int .i64 mk] 119)).alloc (.cells #[.slice none 0 0,.slice none 0 0,.slice none 0 0,.slice none 0 0,.int .i64 0] 119)).alloc (.cells #[.slice none 0 0,.slice none 0 0,.slice none 0 0,.slice none 0 0,.int .i64 0] 119)) (w.heap.size+1+1) 119 #[.slice none 0 0,.slice none 0 0,.slice none 0 0,.slice none 0 0,.int .i64 0]):=by
  have e:=aj.bA ((w.alloc (.cells #[.slice (some ⟨g0,0,none⟩) bs.length bs.length,.slice (some ⟨G,0,none⟩) ss.length ss.length,.slice (some ⟨g2,0,none⟩) is.length is.length,.slice (some ⟨g3,0,none⟩) us.length us.length,.int .i64 mk] 119)).alloc (.cells #[.slice none 0 0,.slice none 0 0,.slice none 0 0,.slice none 0 0,.int .i64 0] 119)) 119 #[.slice none 0 0,.slice none 0 0,.slice none 0 0,.slice none 0 0,.int .i64 0];rw[World.size_alloc,World.size_alloc] at e;exact e
 obtain⟨W0,qy⟩:∃W,Hid ((((w.alloc (.cells #[.slice (some ⟨g0,0,none⟩) bs.length bs.length,.slice (some ⟨G,0,none⟩) ss.length ss.length,.slice (some ⟨g2,0,none⟩) is.length is.length,.slice (some ⟨g3,0,none⟩) us.length us.length,.int .i64 mk] 119)).alloc (.cells #[.slice none 0 0,.slice none 0 0,.slice none 0 0,.slice none 0 0,.int .i64 0] 119)).alloc (.cells #[.slice none 0 0,.slice none 0 0,.slice none 0 0,.slice none 0 0,.int .i64 0] 119))=W):=⟨_,rfl⟩;rw[qy.out] at zn G0 BA BR BC;have HB:=ae hB;have HI:=ae hI;have HO:=ae hO;have HS:=ae hS;have Gh:=ae nf;clear hB hI hO hS nf;go_enter func81,ntmps81;go_wp2_with(at_builtin;rw[qy.out];refine wpList_append_own_at _ rfl _ _ 98 rfl (w.heap.size+3) 125 ib (.agg #[.int .i64 0,.int .i64 0]) 2 16 underlying98 hib xT ze Ch rfl (by decide) _ _ _ rfl (ki _ _ _ _) ⟨g0,0,none⟩ bs.length bs.length (bs.flatMap gm) rfl ?l1 ?c1 ?c2 ?c3 ?c4 ?c5 ?_)
 case l1=>exact ap0 bs
 case c1=>exact TB (HB.out.kept G0.out (by simp))
 case c2=>intro u hu;obtain⟨x,-,hx⟩:=List.mem_flatMap.mp hu;unfold gm at hx;simp at hx;rcases hx with rfl|rfl<;>rfl
 case c3=>unfold maxLen;omega
 case c4=>omega
 case c5=>omega
 intro v1 w1 Bc aH _ _;have EM:W0.grownBy w1 none:=aH;have O1:w1.ownsRow (w.heap.size+3) 125 2 v1 bs.length (bs.flatMap gm):=by simpa using Bc
 obtain⟨ab,cb,rfl⟩:=gP O1;have C1:=BC.out.kept EM (by simp);have c0:w1.cell? ⟨w.heap.size+1+1,0,none⟩=some (.slice none 0 0):=C1.cell 0;have f0:=C1.free 0;have l0:=C1.lt;have cC:=bD w1 (w.heap.size+1+1) 0 (.slice ab bs.length cb);have jq:Hid (aj (w1.setCell ⟨w.heap.size+1+1,0,none⟩ (.slice ab bs.length cb)) (w.heap.size+1+1) 119 #[.slice ab bs.length cb,.slice none 0 0,.slice none 0 0,.slice none 0 0,.int .i64 0]):=C1.set 0 (.slice ab bs.length cb);have xU:=ae ((BA.out.kept EM (by simp)).kept cC (by intro e;injection e with e;omega));have FV:=ae ((BR.out.kept EM (by simp)).kept cC (by intro e;injection e with e;omega));have CB:=ae (px O1 cC (by omega));have dN:=ae (dF (aC G0.out EM) cC (by omega));obtain⟨r1,zo⟩:∃r,Hid (w1.setCell ⟨w.heap.size+1+1,0,none⟩ (.slice ab bs.length cb)=r):=⟨_,rfl⟩;have xS:w.heap.size+3<=r1.heap.size:=by rw[<-zo.out];have:=EM.size;simp;omega
 rw[zo.out] at jq xU FV CB dN;have q1:w1.cell? ⟨w.heap.size+1+1,2,none⟩=some (.slice none 0 0):=C1.cell 2;have a1:w1.cell? ⟨w.heap.size,2,none⟩=some (.slice (some ⟨g2,0,none⟩) is.length is.length):=(BA.out.kept EM (by simp)).cell 2;clear Bc aH EM O1 C1 cC BA BR BC G0 zn qy;go_wp2_with(at_builtin;rw[zo.out];refine wpList_append_own_at _ rfl _ _ 33 rfl (w.heap.size+3) 3 ii (.int .i64 0) 1 8 underlying33 Nk mB hi1 TC rfl (by decide) _ _ _ rfl (ki _ _ _ _) ⟨g2,0,none⟩ is.length is.length (is.map (Value.int .i64)) rfl ?l1 ?c1 ?c2 ?c3 ?c4 ?c5 ?_)
 case l1=>simp
 case c1=>exact TB (HI.out.kept dN.out (by simp))
 case c2=>intro u hu;obtain⟨x,-,rfl⟩:=List.mem_map.mp hu;rfl
 case c3=>unfold maxLen;omega
 case c4=>omega
 case c5=>omega
 intro v2 w2 Ky aM _ _;have CU:r1.grownBy w2 none:=aM;have O2:aZ w2 (w.heap.size+3) v2 is:=by unfold aZ;simpa using Ky
 obtain⟨ai,ci,rfl⟩:=gP O2;have C2:=jq.out.kept CU (by simp);have c2:w2.cell? ⟨w.heap.size+1+1,2,none⟩=some (.slice none 0 0):=C2.cell 2;have f2:=C2.free 2;have l2:=C2.lt;have cC:=bD w2 (w.heap.size+1+1) 2 (.slice ai is.length ci);have jd:Hid (aj (w2.setCell ⟨w.heap.size+1+1,2,none⟩ (.slice ai is.length ci)) (w.heap.size+1+1) 119 #[.slice ab bs.length cb,.slice none 0 0,.slice ai is.length ci,.slice none 0 0,.int .i64 0]):=C2.set 2 (.slice ai is.length ci);have mW:=ae ((xU.out.kept CU (by simp)).kept cC (by intro e;injection e with e;omega));have CV:=ae ((FV.out.kept CU (by simp)).kept cC (by intro e;injection e with e;omega));have CL:=ae (px (eY CB.out CU) cC (by omega));have mC:=ae (O2.kept cC (by omega));have dU:=ae (dF (aC dN.out CU) cC (by omega));obtain⟨r2,zq⟩:∃r,Hid (w2.setCell ⟨w.heap.size+1+1,2,none⟩ (.slice ai is.length ci)=r):=⟨_,rfl⟩;have qi:w.heap.size+3<=r2.heap.size:=by rw[<-zq.out];have:=CU.size;simp;omega
 rw[zq.out] at jd mW CV CL mC dU;have q2:w2.cell? ⟨w.heap.size+1+1,3,none⟩=some (.slice none 0 0):=C2.cell 3;have a2:w2.cell? ⟨w.heap.size,3,none⟩=some (.slice (some ⟨g3,0,none⟩) us.length us.length):=(xU.out.kept CU (by simp)).cell 3;clear Ky aM CU O2 C2 cC xU FV jq CB dN zo q1 a1 c0 f0 l0;go_wp2_with(at_builtin;rw[zq.out];refine wpList_append_own_at _ rfl _ _ 33 rfl (w.heap.size+3) 3 ii (.int .i64 0) 1 8 underlying33 Nk mB hi1 TC rfl (by decide) _ _ _ rfl (ki _ _ _ _) ⟨g3,0,none⟩ us.length us.length (us.map (Value.int .i64)) rfl ?l1 ?c1 ?c2 ?c3 ?c4 ?c5 ?_)
 case l1=>simp
 case c1=>exact TB (HO.out.kept dU.out (by simp))
 case c2=>intro u hu;obtain⟨x,-,rfl⟩:=List.mem_map.mp hu;rfl
 case c3=>unfold maxLen;omega
 case c4=>omega
 case c5=>omega
 intro v3 w3 ho3 aU _ _;have tB:r2.grownBy w3 none:=aU;have O3:aZ w3 (w.heap.size+3) v3 us:=by unfold aZ;simpa using ho3
 obtain⟨ao,co,rfl⟩:=gP O3;have C3:=jd.out.kept tB (by simp);have c3:w3.cell? ⟨w.heap.size+1+1,3,none⟩=some (.slice none 0 0):=C3.cell 3;have f3:=C3.free 3;have l3:=C3.lt;have cC:=bD w3 (w.heap.size+1+1) 3 (.slice ao us.length co);have sx:Hid (aj (w3.setCell ⟨w.heap.size+1+1,3,none⟩ (.slice ao us.length co)) (w.heap.size+1+1) 119 #[.slice ab bs.length cb,.slice none 0 0,.slice ai is.length ci,.slice ao us.length co,.int .i64 0]):=C3.set 3 (.slice ao us.length co);have mX:=ae ((mW.out.kept tB (by simp)).kept cC (by intro e;injection e with e;omega));have CW:=ae ((CV.out.kept tB (by simp)).kept cC (by intro e;injection e with e;omega));have Be:=ae (px (eY CL.out tB) cC (by omega));have uN:=ae ((mC.out.Z tB).kept cC (by omega));have HQ3:=ae (O3.kept cC (by omega));have fR:=ae (dF (aC dU.out tB) cC (by omega));have acX:w.heap.size+3<=w3.heap.size:=by have:=tB.size;omega
 clear ho3 aU tB O3 C3 cC mW CV jd CL mC dU zq q2 a2 c2 f2 l2;go_wp2;go_loopw[4] (fun i wr=>∃(k:Nat) (ps:List (Sp×Nat)) (fJ:Option Addr) (cs:Nat),k<=ss.length/\i=.int .i64 k/\Hid (ps.map (·.1)=ss.take k)/\Hid (aj wr (w.heap.size+1+1) 119 #[.slice ab bs.length cb,.slice fJ k cs,.slice ai is.length ci,.slice ao us.length co,.int .i64 0]) /\
   Hid (aj wr w.heap.size 119 #[.slice (some ⟨g0,0,none⟩) bs.length bs.length,.slice (some ⟨G,0,none⟩) ss.length ss.length,.slice (some ⟨g2,0,none⟩) is.length is.length,.slice (some ⟨g3,0,none⟩) us.length us.length,.int .i64 mk]) /\
   Hid (aj wr (w.heap.size+1) 119 #[.slice none 0 0,.slice none 0 0,.slice none 0 0,.slice none 0 0,.int .i64 0])/\Hid (wr.ownsRow (w.heap.size+3) 125 2 (.slice ab bs.length cb) bs.length (bs.flatMap gm))/\Hid (aZ wr (w.heap.size+3) (.slice ai is.length ci) is)/\Hid (aZ wr (w.heap.size+3) (.slice ao us.length co) us) /\
   Hid (wr.ownsRow (w.heap.size+3) 152 3 (.slice fJ k cs) k (ps.flatMap fun p=>sg p.2 p.1))/\Hid (∀p∈ps,aZ wr (w.heap.size+3) (cT p.2 p.1.bS) p.1.bS)/\Hid (w.grownBy wr none)/\Hid (w.heap.size+3<=wr.heap.size)) (fun i _=>ss.length-(intOf i).toNat)
 case atStart=>exact⟨0,[],none,0,bK _,rfl,by unfold Hid;simp,sx.out,mX.out,CW.out,Be.out,uN.out,HQ3.out,ki _ _ _ _,fun p hp=>aN hp (by simp),fR.out,by unfold Hid;simp;exact acX⟩
 case round=>
  clear sx mX CW Be uN HQ3 fR acX c3 f3 l3;obtain⟨k,ps,fJ,cs,hk,rfl,TD,HC,HA,HR,Hb,Hi,Ho,Hs,Hf,HG,CH⟩:=hrel;have a1:wr.cell? ⟨w.heap.size,1,none⟩=some (.slice (some ⟨G,0,none⟩) ss.length ss.length):=HA.out.cell 1;by_cases aJ:k<ss.length
  ·obtain⟨s,hs⟩:∃s,ss[k]?=some s:=⟨_,aS aJ⟩
   obtain⟨gf,d0,d1,d2,rl⟩:=(HS.out.Z HG.out).get k s hs;have EE:=Gh.out s (bU hs);have pS:Sl wr (.slice (some ⟨gf,0,none⟩) s.bS.length s.bS.length) s.bS:=⟨_,_,rfl,fun i y hy=>⟨_,rfl,by rw[vy];exact rl i y hy⟩⟩;have TE:=ae (show ∀g:Nat,(ps++[(s,g)]).map (·.1)=ss.take (k+1) from fun g=>by rw[H.kd hs,<-TD.out];simp);have TF:=ae (SB (some ⟨gf,0,none⟩) s.bS.length s.bS.length s.bS wr pS (by omega));clear pS rl hs TD;obtain⟨sk,sf,CX⟩:=s;simp only at d0 d1 d2 EE TF TE;go_wp2_with fail;refine TF.out.mono ?_;rintro e w4⟨rfl,EG,bm⟩;have e0:=aG bm d0;have e2:=aG bm d2;have e1:=aG bm a1;have C4:=HC.out.kept bm (by simp);have c1:w4.cell? ⟨w.heap.size+1+1,1,none⟩=some (.slice fJ k cs):=C4.cell 1;have y0:=cell_regrown e0;have y1:=cell_regrown e1;have y2:=cell_regrown e2;have y3:=cell_regrown c1;have HC4:=ae C4;have Hb4:=ae EG;have rA:=ae bm;have Ec:=bm.size;have AU:wr.heap.size<w4.heap.size:=EG.lt;clear d0 d1 d2 a1 e0 e1 e2 c1 C4 EG bm TF;go_wp2_with fail;refine CR 16 17 (fun w'=>∃p:Regrown,w'=Go.Sort.grow (redrawn w4 p.d) p.os) (w4.drew.alloc (.cells #[.int .i64 sk,.slice (some ⟨wr.heap.size,0,none⟩) sf.length sf.length,.int .i64 CX] 152)) (by kernel_rfl) (by kernel_rfl) (by decide) ⟨⟨w4.drawn+1,#[]⟩,by rw[Go.Sort.grow_empty];rfl⟩ ⟨⟨w4.drawn+1,#[.cells #[.int .i64 sk,.slice (some ⟨wr.heap.size,0,none⟩) sf.length sf.length,.int .i64 CX] 152]⟩,rfl⟩ ?_;simp only[List.take_succ_cons,List.take_zero,List.drop_succ_cons,List.drop_zero]
   repeat (refine zF (by decide) (fun K hK=>?_);go_simp;refine hK _ ?_;clear hK K)
   refine CS (.slice (some ⟨w4.heap.size,0,none⟩) 1 1) ?hw ?hr ?_
   case hw=>rfl
   case hr=>go_simp
   refine CT ?_;clear y0 y1 y2 y3;have P2:=ae (eY (eY Hs.out rA.out) (gE w4 none));go_wp2_with(at_builtin;refine nD _ rfl _ _ 117 rfl (w.heap.size+3) 152 ip (.agg #[.int .i64 0,.slice none 0 0,.int .i64 0]) 3 40 underlying117 JJ Fo eW gj rfl (by decide) _ _ _ rfl (lB P2.out _) ⟨w4.heap.size,0,none⟩ 1 1 [.int .i64 sk,.slice (some ⟨wr.heap.size,0,none⟩) sf.length sf.length,.int .i64 CX] rfl rfl ?c1 ?c2 ?c3 ?c4 ?c5 ?_)
   case c1=>exact kb w4.drew 152 #[.int .i64 sk,.slice (some ⟨wr.heap.size,0,none⟩) sf.length sf.length,.int .i64 CX]
   case c2=>intro u hu;simp at hu;rcases hu with rfl|rfl|rfl<;>rfl
   case c3=>unfold maxLen;omega
   case c4=>omega
   case c5=>have:=CH.out;simp;omega
   intro v' w9 dC cR _;have bq:w4.grownBy w9 (Value.slice fJ k cs).ownBlock:=aC (aC (aQ w4 _ _) (gE _ _)) cR;have Q2:=eY Hs.out rA.out;have dR:=mJ Q2;obtain⟨Gj,Gk,hv⟩:=gP dC;subst hv;have C9:=HC4.out.kept bq (by intro e;have:=dR _ e.symm;omega);have A9:=(HA.out.kept rA.out (by simp)).kept bq (by intro e;have:=dR _ e.symm;omega);have R9:=(HR.out.kept rA.out (by simp)).kept bq (by intro e;have:=dR _ e.symm;omega);have B9:=oc (eY Hb.out rA.out) Q2 (by decide) bq;have I9:aZ w9 (w.heap.size+3) (.slice ai is.length ci) is:=oc (Hi.out.Z rA.out) Q2 (by decide) bq;have U9:aZ w9 (w.heap.size+3) (.slice ao us.length co) us:=oc (Ho.out.Z rA.out) Q2 (by decide) bq;have N9:aZ w9 (w.heap.size+3) (cT wr.heap.size sf) sf:=oc (aZ.sO (base:=w.heap.size+3) (by have:=CH.out;omega) rfl (by unfold maxLen;omega) Hb4.out) Q2 (by decide) bq;have F9:∀p∈ps++[((⟨sk,sf,CX⟩:Sp),wr.heap.size)],aZ w9 (w.heap.size+3) (cT p.2 p.1.bS) p.1.bS:=by
    intro p hp;rcases List.mem_append.1 hp with hp|hp
    ·exact oc ((Hf.out p hp).Z rA.out) Q2 (by decide) bq
    ·simp at hp;subst hp;exact N9
   have S9:w9.ownsRow (w.heap.size+3) 152 3 (.slice Gj (k+1) Gk) (k+1) ((ps++[((⟨sk,sf,CX⟩:Sp),wr.heap.size)]).flatMap fun p=>sg p.2 p.1):=by
    rw[List.flatMap_append];exact dC
   have c9:w9.cell? ⟨w.heap.size+1+1,1,none⟩=some (.slice fJ k cs):=C9.cell 1;have f9:=C9.free 1;have l9:=C9.lt;have cC:=bD w9 (w.heap.size+1+1) 1 (.slice Gj (k+1) Gk);have OM:Hid (aj (w9.setCell ⟨w.heap.size+1+1,1,none⟩ (.slice Gj (k+1) Gk)) (w.heap.size+1+1) 119 #[.slice ab bs.length cb,.slice Gj (k+1) Gk,.slice ai is.length ci,.slice ao us.length co,.int .i64 0]):=C9.set 1 (.slice Gj (k+1) Gk);have HA9:=ae (A9.kept cC (by intro e;injection e with e;omega));have HR9:=ae (R9.kept cC (by intro e;injection e with e;omega));have pe:=ae (px B9 cC (by omega));have lD:=ae (I9.kept cC (by omega));have HU9:=ae (U9.kept cC (by omega));have TG:=ae (fun p hp=>(F9 p hp).kept cC (by omega));have TH:=ae (px S9 cC (by omega));have jh:=ae (dF (l8 (aC HG.out rA.out) bq (fun g hg=>by have:=dR g hg;omega)) cC (by omega));have hs9:w.heap.size+3<=w9.heap.size:=by have:=bq.size;have:=CH.out;omega
   have ap7:=ae (TE.out wr.heap.size);clear bq Q2 dR C9 A9 R9 B9 I9 U9 N9 F9 S9 cC dC cR HC HA HR Hb Hi Ho Hs Hf HG HC4 Hb4 rA P2 TE;go_wp2;go_roundw
   case rel=>exact⟨k+1,ps++[((⟨sk,sf,CX⟩:Sp),wr.heap.size)],Gj,Gk,by omega,by go_num,ap7.out,OM.out,HA9.out,HR9.out,pe.out,lD.out,HU9.out,TH.out,TG.out,jh.out,by unfold Hid;simp;exact hs9⟩
   case measure=>simp[intOf];omega
  ·obtain rfl:k=ss.length:=by omega
   have HW:Hid (tJ wr (w.heap.size+3) ab fJ ai ao cb cs ci co bs ss is us):=⟨Hb.out,⟨ps,by have:=TD.out;rwa [jm] at this,Hs.out,Hf.out⟩,Hi.out,Ho.out⟩;have EA:=ae (setRow_heap wr (w.heap.size+1) _ #[.slice ab bs.length cb,.slice fJ ss.length cs,.slice ai is.length ci,.slice ao us.length co,.int .i64 0] 119 _ HR.out);have g5:=vB wr (w.heap.size+1) #[.slice ab bs.length cb,.slice fJ ss.length cs,.slice ai is.length ci,.slice ao us.length co,.int .i64 0];have Kz:=ae (HW.out.below (show w.heap.size<=w.heap.size+3 by omega) g5 (by omega));have iC:=ae (dF HG.out g5 (by omega));clear g5;go_wp2_with(first|(refine dj rfl 119 _ rfl (w.heap.size+1+1) rfl 119 #[.slice ab bs.length cb,.slice fJ ss.length cs,.slice ai is.length ci,.slice ao us.length co,.int .i64 0] (0,0) _ HC.out underlying119 rfl Tryz.uK ?_)|(refine aaY rfl 119 _ _ rfl (w.heap.size+1) #[.slice ab bs.length cb,.slice fJ ss.length cs,.slice ai is.length ci,.slice ao us.length co,.int .i64 0] rfl rfl 119 #[.slice none 0 0,.slice none 0 0,.slice none 0 0,.slice none 0 0,.int .i64 0] HR.out Tryz.uK rfl (by simp[Value.oneCell']) ?_));refine bodyPost_ret (v:=.agg #[.slice ab bs.length cb,.slice fJ ss.length cs,.slice ai is.length ci,.slice ao us.length co,.int .i64 0]) ?hr rfl ?_
   case hr=>exact results_cell_row Tryz.results81 _ _ (w.heap.size+1) 119 _ (0,0) _ rfl EA.out underlying119 rfl Tryz.uK
   exact⟨⟨ab,fJ,ai,ao,cb,cs,ci,co,rfl,Kz.out⟩,iC.out⟩
theorem Tryz.ap8:(prog.info? 119).map (fun i=>(i.zero,i.size,i.bytes))=some (some (.agg #[.slice none 0 0,.slice none 0 0,.slice none 0 0,.slice none 0 0,.int .i64 0]),5,104):=by kernel_rfl
def oJ(g0 G:Nat)(gs:List Nat)(g2 g3:Nat)(mark:Int)(bs:List H.Bf)(ss:List Sp)(is us:List Int):Td:=
 ⟨g0,bs.length,G,(gs.zip ss).map fun p=>(p.1,p.2.bS.length),g2,is.length,g3,us.length,mark⟩
def CY(mark:Int)(bs:List H.Bf)(k:Nat):List H.Bf:=List.replicate k ⟨-mark,-7⟩++bs.drop k
theorem ac0{mark:Int}{bs:List H.Bf}{k:Nat}{x:H.Bf}(h:bs[k]?=some x):(CY mark bs k)[k]?=some x:=by
 unfold CY;rw[og (by simp),vT,Nat.sub_self,List.getElem?_drop,Nat.add_zero];exact h
theorem ap9{mark:Int}{bs:List H.Bf}{k:Nat}{x:H.Bf}(h:bs[k]?=some x):(CY mark bs k).set k ⟨-mark,-7⟩=CY mark bs (k+1):=by
 have hl:=M.bP h;unfold CY;rw[List.set_append_right _ _ (by simp),vT,Nat.sub_self,List.replicate_succ',j8,<-List.getElem_cons_drop hl]
 rfl
theorem aqa{xs:List H.Bf}{i:Nat}{x:H.Bf}(h:xs[i]?=some x)(a c:Int):
 (((xs.flatMap gm).toArray.setIfInBounds (i*2) (.int .i64 a)).setIfInBounds (i*2+1) (.int .i64 c))=((xs.set i ⟨a,c⟩).flatMap gm).toArray:=by
 have hl:=M.bP h;have e0:((xs.flatMap gm).toArray.setIfInBounds (i*2) (.int .i64 a))=((xs.set i ⟨a,x.c⟩).flatMap gm).toArray:=by
  rw[List.setIfInBounds_toArray,<-vS gm 2 (fun _=>rfl) xs i 0 x ⟨a,x.c⟩ (.int .i64 a) h (by decide) rfl,Nat.add_zero]
 have h1:(xs.set i ⟨a,x.c⟩)[i]?=some ⟨a,x.c⟩:=by rw[List.getElem?_set_self hl]
 rw[e0,List.setIfInBounds_toArray,vS gm 2 (fun _=>rfl) (xs.set i ⟨a,x.c⟩) i 1 ⟨a,x.c⟩ ⟨a,c⟩ _ h1 (by decide) rfl,List.set_set]
theorem ac1{w:World}{g tt:Nat}{xs:List H.Bf}(hB:aj w g tt (xs.flatMap gm).toArray){i:Nat}{x:H.Bf}(h:xs[i]?=some x):
  w.cell? ⟨g,i*2,none⟩=some (.int .i64 x.a)/\w.cell? ⟨g,i*2+1,none⟩=some (.int .i64 x.c):=by
 have:=CP hB (M.bP h);have e:xs.getD i H.aV=x:=by rw[List.getD,h];rfl
 rwa [e] at this
theorem aqb(mark:Int)(bs:List H.Bf):(CY mark bs bs.length).flatMap gm=(List.replicate bs.length ()).flatMap fun _=>OA mark:=by
 unfold CY;rw[List.drop_length,List.append_nil];generalize bs.length=n
 induction n with
 |zero=>rfl
 |succ n ih=>rw[List.replicate_succ,List.replicate_succ,List.flatMap_cons,List.flatMap_cons,ih];rfl
def tM(p:Value×Value×Value):List Value:=[p.1,p.2.1,p.2.2]
def ac2(p:Nat×Sp):Value×Value×Value:=(.int .i64 p.2.af,cT p.1 p.2.bS,.int .i64 p.2.to)
def ON(mark:Int)(p:Nat×Sp):Value×Value×Value:=(.int .i64 (-7),cT p.1 p.2.bS,.int .i64 (-mark-3))
def wI(mark:Int)(zs:List (Nat×Sp))(k:Nat):List (Value×Value×Value):=(zs.take k).map (ON mark)++(zs.drop k).map ac2
theorem aqc{mark:Int}{zs:List (Nat×Sp)}{k:Nat}{z:Nat×Sp}(h:zs[k]?=some z):(wI mark zs k)[k]?=some (ac2 z):=by
 have hl:=M.bP h;unfold wI;have e:((zs.take k).map (ON mark)).length=k:=by simp;omega
 rw[og (by omega),e,Nat.sub_self,dV,List.getElem?_drop,Nat.add_zero,h];rfl
theorem aqd{mark:Int}{zs:List (Nat×Sp)}{k:Nat}{z:Nat×Sp}(h:zs[k]?=some z):(wI mark zs k).set k (ON mark z)=wI mark zs (k+1):=by
 have hl:=M.bP h;unfold wI;have e:((zs.take k).map (ON mark)).length=k:=by simp;omega
 rw[List.set_append_right _ _ (by omega),e,Nat.sub_self,H.kd h,lK,j8]
 congr 1
 rw[<-List.getElem_cons_drop hl,List.map_cons,List.set_cons_zero];have:zs[k]=z:=by rw[aS hl] at h;injection h
 rw[<-this];simp
theorem aqe(mark:Int)(zs:List (Nat×Sp)):(wI mark zs 0).flatMap tM=zs.flatMap fun p=>sg p.1 p.2:=by
 unfold wI;rw[List.take_zero,List.drop_zero,List.map_nil,List.nil_append,List.flatMap_map]
 rfl
theorem aqf(mark:Int)(zs:List (Nat×Sp)):(wI mark zs zs.length).flatMap tM=(zs.map fun p=>(p.1,p.2.bS.length)).flatMap (Oz mark):=by
 unfold wI;rw[jm,List.drop_length,List.map_nil,List.append_nil,List.flatMap_map,List.flatMap_map]
 rfl
theorem aqg{xs:List (Value×Value×Value)}{i:Nat}{x y z t:Value}(h:xs[i]?=some (x,y,z))(c a:Value)(ht:t=a):
 (((xs.flatMap tM).toArray.setIfInBounds (i*3+2) c).setIfInBounds (i*3) t)=((xs.set i (a,y,c)).flatMap tM).toArray:=by
 subst ht;have hl:=M.bP h;have e0:((xs.flatMap tM).toArray.setIfInBounds (i*3+2) c)=((xs.set i (x,y,c)).flatMap tM).toArray:=by
  rw[List.setIfInBounds_toArray,vS tM 3 (fun _=>rfl) xs i 2 (x,y,z) (x,y,c) c h (by decide) rfl]
 rw[e0];have h1:(xs.set i (x,y,c))[i]?=some (x,y,c):=by rw[List.getElem?_set_self hl]
 have e:=vS tM 3 (fun _=>rfl) (xs.set i (x,y,c)) i 0 (x,y,c) (t,y,c) t h1 (by decide) rfl;rw[Nat.add_zero] at e;rw[List.setIfInBounds_toArray,e,List.set_set]
theorem ac3{w:World}{g tt:Nat}{xs:List (Value×Value×Value)}(hB:aj w g tt (xs.flatMap tM).toArray){i:Nat}{x y z:Value}(h:xs[i]?=some (x,y,z)):
  w.cell? ⟨g,i*3,none⟩=some x/\w.cell? ⟨g,i*3+1,none⟩=some y/\w.cell? ⟨g,i*3+2,none⟩=some z:=by
 have cF:∀j,j<3->w.cell? ⟨g,i*3+j,none⟩=(tM (x,y,z))[j]?:=by
  intro j hj;rw[hB.cell (i*3+j),nP];exact lP tM 3 (fun _=>rfl) xs i j (x,y,z) h hj
 exact⟨cF 0 (by omega),cF 1 (by omega),cF 2 (by omega)⟩
theorem TI(l:List Int)(v:Int):lfillTo (l.map (Value.int .i64)).toArray (.int .i64 v) (l.map (Value.int .i64)).toArray.size=((List.replicate l.length v).map (Value.int .i64)).toArray:=by
 apply Array.ext_getElem?
 intro i;rcases cE i l.length with c|c
 ·rw[Z6 _ _ _ _ (by simpa using c),ay (by simpa using c),nP,dV,ui,ay c]
  rfl
 ·rw[Array.getElem?_eq_none (by rw[Z0];simpa using c),Array.getElem?_eq_none (by simpa using c)]
theorem mA.TJ{w w':World}{B G T:Nat}{gs:List Nat}{ss:List Sp}(h:mA w B G gs ss)(hg:w.grownBy w' (some T))(hT:T<G):mA w' B G gs ss:=
 ⟨h.len,h.out.kept hg (by intro e;injection e with e;omega),h.base,h.AZ,h.aT,fun i g s hi hs=>(h.gy i g s hi hs).kept hg (by intro e;injection e with e;have:=h.aT g (bU hi);omega)⟩
def zG(w:World)(mark:Int)(gs:List Nat)(ss:List Sp)(k:Nat):Prop:=
 ∀(j:Nat) g s,gs[j]?=some g->ss[j]?=some s->aj w g 3 ((if j<k then List.replicate s.bS.length (-(mark+4+j)-7) else s.bS).map (Value.int .i64)).toArray
theorem zG.kept{w w':World}{mark:Int}{gs:List Nat}{ss:List Sp}{k:Nat}(h:zG w mark gs ss k)(hg:w.grownBy w' none):zG w' mark gs ss k:=fun j g s hj hs=>(h j g s hj hs).kept hg (by simp)
theorem zG.next{w w':World}{mark:Int}{gs:List Nat}{ss:List Sp}{k g:Nat}{s:Sp}(h:zG w mark gs ss k)(hs:gs.Pairwise (· < ·))(hk:gs[k]?=some g)(jJ:ss[k]?=some s)(hg:w.grownBy w' (some g))(hb:aj w' g 3 ((List.replicate s.bS.length (-(mark+4+k)-7)).map (Value.int .i64)).toArray):zG w' mark gs ss (k+1):=fun j g' s' hj qi=>by
 by_cases e:j=k
 ·subst e
  rw[hk] at hj;injection hj with hj;subst hj;rw[jJ] at qi;injection qi with qi;subst qi;rw[ay (by omega)];exact hb
 ·have ey:g'≠g:=by
   have hp:=List.pairwise_iff_getElem.mp hs;have l1:=M.bP hj;have l2:=M.bP hk;rw[aS l1] at hj;injection hj with hj;rw[aS l2] at hk;injection hk with hk;rcases Nat.lt_or_gt_of_ne e with c|c
   ·have:=hp j k l1 l2 c;omega
   ·have:=hp k j l2 l1 c;omega
  have:=(h j g' s' hj qi).kept hg (by intro e;injection e with e;exact ey e);by_cases c:j<k
  ·rw[ay c] at this;rw[ay (by omega)];exact this
  ·rw[ak c] at this;rw[ak (by omega)];exact this
theorem zG.bN{w w':World}{mark:Int}{gs:List Nat}{ss:List Sp}{k G:Nat}(h:zG w mark gs ss k)(hg:w.grownBy w' (some G))(hG:∀g∈gs,G<g):zG w' mark gs ss k:=fun j g s hj hs=>(h j g s hj hs).kept hg (by intro e;injection e with e;have:=hG g (bU hj);omega)
theorem mA.ac4{w w':World}{B G T:Nat}{gs:List Nat}{ss:List Sp}(h:mA w B G gs ss)(hg:w.grownBy w' (some T))(hT:G<T)(hs:∀g∈gs,g<T):mA w' B G gs ss:=
 ⟨h.len,h.out.kept hg (by intro e;injection e with e;omega),h.base,h.AZ,h.aT,fun i g s hi jJ=>(h.gy i g s hi jJ).kept hg (by intro e;injection e with e;have:=hs g (bU hi);omega)⟩
theorem aqh(b base:Nat)(vp vl vw va vn ve vr vt vo:Value)(n:Nat)(mark:Int)(xs:List Value)(g0 G:Nat)(gs:List Nat)(g2 g3 B:Nat)(mk:Int)(bs:List H.Bf)(ss:List Sp)(is us:List Int)(w:World)
  (hL:LW w b vp vl vw va vn ve vr vt (.int .i64 mark) vo) (hT:w.ownsRow base 119 5 vt n xs)
  (hB:aj w g0 125 (bs.flatMap gm).toArray) (hS:mA w B G gs ss) (hI:aj w g2 3 (is.map (Value.int .i64)).toArray) (hO:aj w g3 3 (us.map (Value.int .i64)).toArray)
  (o0:g0<G) (o1:b<g0) (o2:∀g,vt.ownBlock=some g->g<g0/\g≠b) (o3:∀g∈gs,g<g2) (o4:G<g2) (o5:g2<g3) (zg:base<=w.heap.size)
  (m0:0<=mark) (m1:mark<=1000000000000) (hn:n<=1000000000) (nb:bs.length<=1000) (ns:ss.length<=1000) (ni:is.length<=1000) (no:us.length<=1000) (nf:∀s∈ss,s.bS.length<=1000):
 Calls prog 83 #[.pointer (some ⟨b,0,none⟩),.agg #[.slice (some ⟨g0,0,none⟩) bs.length bs.length,.slice (some ⟨G,0,none⟩) ss.length ss.length,.slice (some ⟨g2,0,none⟩) is.length is.length,.slice (some ⟨g3,0,none⟩) us.length us.length,.int .i64 mk]] w fun e w'=>e=.returned (.tuple #[])/\∃gt ct,
   LW w' b vp vl vw va vn ve vr (.slice (some ⟨gt,0,none⟩) (n+1) ct) (.int .i64 (mark+4+ss.length)) vo/\w'.ownsRow base 119 5 (.slice (some ⟨gt,0,none⟩) (n+1) ct) (n+1) (xs++(oJ g0 G gs g2 g3 mark bs ss is us).val)/\ry w' (oJ g0 G gs g2 g3 mark bs ss is us) /\
   (vt.ownBlock=some gt\/w.heap.size<gt)/\Fr (fun k=>k=b\/vt.ownBlock=some k\/k∈(oJ g0 G gs g2 g3 mark bs ss is us).iG) w w':=by
 obtain⟨ip,JJ,Fo,eW,gj⟩:=info_parts Tryz.ap8;have dh:=hL.lt;have aym:=hB.lt;have ayn:=hO.lt;have OP:=ae o2;have KA:=ae o3;have Gh:=ae nf;have HT:=ae hT;have hl8:w.cell? ⟨b,8,none⟩=some (.int .i64 mark):=hL.cell 8;obtain⟨W0,qy⟩:∃W,Hid (w.alloc (.cells #[.slice (some ⟨g0,0,none⟩) bs.length bs.length,.slice (some ⟨G,0,none⟩) ss.length ss.length,.slice (some ⟨g2,0,none⟩) is.length is.length,.slice (some ⟨g3,0,none⟩) us.length us.length,.int .i64 mark] 119)=W):=⟨_,rfl⟩;have A0:=aj.bA w 119 #[.slice (some ⟨g0,0,none⟩) bs.length bs.length,.slice (some ⟨G,0,none⟩) ss.length ss.length,.slice (some ⟨g2,0,none⟩) is.length is.length,.slice (some ⟨g3,0,none⟩) us.length us.length,.int .i64 mark];have GW:=aQ w (.cells #[.slice (some ⟨g0,0,none⟩) bs.length bs.length,.slice (some ⟨G,0,none⟩) ss.length ss.length,.slice (some ⟨g2,0,none⟩) is.length is.length,.slice (some ⟨g3,0,none⟩) us.length us.length,.int .i64 mark] 119) none;have Gl:(w.alloc (.cells #[.slice (some ⟨g0,0,none⟩) bs.length bs.length,.slice (some ⟨G,0,none⟩) ss.length ss.length,.slice (some ⟨g2,0,none⟩) is.length is.length,.slice (some ⟨g3,0,none⟩) us.length us.length,.int .i64 mark] 119)).heap.size=w.heap.size+1:=by simp
 rw[qy.out] at A0 GW Gl;have L1:=hL.kept GW (by simp);have HB:=ae (hB.kept GW (by simp));have HI:=ae (hI.kept GW (by simp));have HO:=ae (hO.kept GW (by simp));have HSs:=ae (hS.Z GW);have y8:W0.cell? ⟨b,8,none⟩=some (.int .i64 mark):=L1.cell 8;have y1:W0.cell? ⟨w.heap.size,1,none⟩=some (.slice (some ⟨G,0,none⟩) ss.length ss.length):=A0.cell 1;have J0:=ae A0;have yX:=ae L1;have uE:=ae GW;have w1:IntKind.i64.wrap (mark+4)=mark+4:=by rw[cU];omega
 have w2:IntKind.i64.wrap (mark+4+(ss.length:Int))=mark+4+(ss.length:Int):=by rw[cU];omega
 clear hL hT hB hS hI hO o2 o3 nf A0 GW L1;go_enter func83,ntmps83;go_wp2;rw[qy.out];clear hl8;go_still_tail 10,(by kernel_rfl);show wpList _ _ _ _ _ W0.drew;have eH:=gE W0 none;have z8:=aG eH y8;have xU:=ae (J0.out.kept eH (by simp));have q8:=yX.out.kept eH (by simp);have ke:=ae (aC uE.out eH);have nF:=ae (HB.out.kept eH (by simp));have kS:=ae (HI.out.kept eH (by simp));have CB:=ae (HO.out.kept eH (by simp));have jA:=ae (HSs.out.Z eH);have hWd:W0.drew.heap.size=w.heap.size+1:=Gl;clear y8 y1 eH J0 yX uE HB HI HO HSs qy Gl;generalize W0.drew=W1 at *;have f8:=q8.free 8;have cC:=bD W1 b 8 (.int .i64 (mark+4+ss.length));have qx:Hid (LW (W1.setCell ⟨b,8,none⟩ (.int .i64 (mark+4+ss.length))) b vp vl vw va vn ve vr vt (.int .i64 (mark+4+ss.length)) vo):=q8.set 8 (.int .i64 (mark+4+ss.length));have mW:=ae (xU.out.kept cC (by intro e;injection e with e;omega));have iD:=ae (nF.out.kept cC (by intro e;injection e with e;omega));have jF:=ae (kS.out.kept cC (by intro e;injection e with e;omega));have CL:=ae (CB.out.kept cC (by intro e;injection e with e;omega));have gL:=ae (jA.out.TJ cC (by omega));have tu:=ae ((Fr.uI ke.out).mono (S':=fun k=>k=b\/k∈(oJ g0 G gs g2 g3 mark bs ss is us).iG) (fun k _ h=>by cases h) |>.iK cC (fun g hg=>.inr (.inl (by injection hg with hg;exact hg.symm))));have hlb:=q8.lt;clear q8 cC xU nF kS CB jA ke;go_wp2;clear z8 f8 hlb;have ayo:(W1.setCell ⟨b,8,none⟩ (.int .i64 (mark+4+ss.length))).heap.size=w.heap.size+1:=by rw[yC];exact hWd
 generalize W1.setCell ⟨b,8,none⟩ (.int .i64 (mark+4+ss.length))=W2 at *;clear hWd;go_loopw[4] (fun i wr=>∃k:Nat,k<=bs.length/\i=.int .i64 k/\aj wr g0 125 ((CY mark bs k).flatMap gm).toArray/\W2.grownBy wr (some g0)) (fun i _=>bs.length-(intOf i).toNat)
 case atStart=>exact⟨0,bK _,rfl,iD.out,fZ _ _⟩
 case round=>
  clear iD;obtain⟨k,hk,rfl,bV,aF⟩:=hrel;have Ak:=mW.out.kept aF (by intro e;injection e with e;omega);have a0:wr.cell? ⟨w.heap.size,0,none⟩=some (.slice (some ⟨g0,0,none⟩) bs.length bs.length):=Ak.cell 0;by_cases aJ:k<bs.length
  ·have a4:wr.cell? ⟨w.heap.size,4,none⟩=some (.int .i64 mark):=Ak.cell 4
   obtain⟨x,hx⟩:∃x,bs[k]?=some x:=⟨_,aS aJ⟩;obtain⟨d0,d1⟩:=ac1 bV (ac0 hx);have f0:=bV.free (k*2);have f1:=bV.free (k*2+1);have AU:=bV.lt;have fU:=ae ((bV.set (k*2) (.int .i64 (-mark))).set (k*2+1) (.int .i64 (-7)));rw[aqa (ac0 hx),ap9 hx] at fU;have fR:=ae (aC aF (aC (bD wr g0 (k*2) (.int .i64 (-mark))) (bD _ g0 (k*2+1) (.int .i64 (-7)))));have w3:IntKind.i64.wrap (-mark) = -mark:=by rw[cU];omega
   clear hx bV aF Ak;go_wp2;go_roundw
   case rel=>exact⟨k+1,by omega,by go_num,fU.out,fR.out⟩
   case measure=>simp[intOf];omega
  ·obtain rfl:k=bs.length:=by omega
   have a2:wr.cell? ⟨w.heap.size,2,none⟩=some (.slice (some ⟨g2,0,none⟩) is.length is.length):=Ak.cell 2;have a4:wr.cell? ⟨w.heap.size,4,none⟩=some (.int .i64 mark):=Ak.cell 4;rw[aqb] at bV;have fU:=ae bV;have mX:=ae Ak;have pb:=ae (qx.out.kept aF (by intro e;injection e with e;omega));have mr:=ae (jF.out.kept aF (by intro e;injection e with e;omega));have Be:=ae (CL.out.kept aF (by intro e;injection e with e;omega));have lE:=ae (gL.out.TJ aF (by omega));have yb:=ae (tu.out.iK aF (fun g hg=>.inr (.inr (by injection hg with hg;subst hg;simp[Td.iG,oJ]))));have JP:w.heap.size+1<=wr.heap.size:=by have:=aF.size;omega
   have e1:(is.map (Value.int .i64)).toArray.size=is.length:=by simp
   have e2:(us.map (Value.int .i64)).toArray.size=us.length:=by simp
   have jq:=Sz g2 is.length (is.map (Value.int .i64)).toArray (mark+1) wr mr.out (fun i hi=>by rw[e1] at hi;exact⟨is[i],by simp[hi]⟩) (by omega) (by omega) (by omega);rw[TI,e1] at jq;have HC:=ae jq;clear bV aF Ak mW qx jF CL gL tu mr jq;go_wp2_with fail;refine HC.out.mono ?_;rintro e w4⟨rfl,lS,bm⟩;have rn:=mX.out.kept bm (by intro e;injection e with e;omega);have b3:w4.cell? ⟨w.heap.size,3,none⟩=some (.slice (some ⟨g3,0,none⟩) us.length us.length):=rn.cell 3;have b4:w4.cell? ⟨w.heap.size,4,none⟩=some (.int .i64 mark):=rn.cell 4;have iS:=ae (fU.out.kept bm (by intro e;injection e with e;omega));have CZ:=ae (pb.out.kept bm (by intro e;injection e with e;omega));have HO4:=Be.out.kept bm (by intro e;injection e with e;omega);have jS:=ae (lE.out.ac4 bm (by omega) KA.out);have ky:=ae lS;have HF4:=ae (yb.out.iK bm (fun g hg=>.inr (.inr (by injection hg with hg;subst hg;simp[Td.iG,oJ]))));have qS:w.heap.size+1<=w4.heap.size:=by have:=bm.size;omega
   have jd:=Sz g3 us.length (us.map (Value.int .i64)).toArray (mark+2) w4 HO4 (fun i hi=>by rw[e2] at hi;exact⟨us[i],by simp[hi]⟩) (by omega) (by omega) (by omega);rw[TI,e2] at jd;have HD:=ae jd;have ada:=ae rn;clear HC jd lS bm rn HO4 mX fU pb Be lE yb a0 a2 a4;go_wp2_with fail;refine HD.out.mono ?_;rintro e w5⟨rfl,Iu,cK⟩;have mY:=ae (ada.out.kept cK (by intro e;injection e with e;omega));have oE:=ae (iS.out.kept cK (by intro e;injection e with e;omega));have NI:=ae (CZ.out.kept cK (by intro e;injection e with e;omega));have rU:=ae (ky.out.kept cK (by intro e;injection e with e;omega));have sw:=jS.out.ac4 cK (by omega) (fun g hg=>by have:=KA.out g hg;omega);have HO5:=ae Iu;have OQ:=ae (HF4.out.iK cK (fun g hg=>.inr (.inr (by injection hg with hg;subst hg;simp[Td.iG,oJ]))));have xJ:w.heap.size+1<=w5.heap.size:=by have:=cK.size;omega
   have hz:(gs.zip ss).length=ss.length:=by rw[List.length_zip,sw.len];omega
   have HX5:Hid (aj w5 G 152 ((wI mark (gs.zip ss) 0).flatMap tM).toArray):=by rw[aqe,<-acz];exact sw.out
   have EN:=ae sw;have Hz:=ae hz;clear HD Iu cK ada iS CZ ky jS HF4 b3 b4 sw hz;go_wp2;go_loopw[5] (fun i wr=>∃k:Nat,k<=ss.length/\i=.int .i64 k/\Hid (aj wr G 152 ((wI mark (gs.zip ss) k).flatMap tM).toArray)/\Hid (zG wr mark gs ss k)/\Hid (Fr (fun q=>q=G\/q∈gs) w5 wr)) (fun i _=>ss.length-(intOf i).toNat)
   case atStart=>exact⟨0,bK _,rfl,HX5.out,fun j g s hg hs=>by rw[ak (by omega)];exact EN.out.gy j g s hg hs,Fr.refl _ _⟩
   case round=>
    clear HX5;obtain⟨k,hk,rfl,HX,KB,rB⟩:=hrel;have Ak:=rB.out.gy mY.out (fun h=>by rcases h with h|h;omega;have:=KA.out _ h;omega);have a1:wr.cell? ⟨w.heap.size,1,none⟩=some (.slice (some ⟨G,0,none⟩) ss.length ss.length):=Ak.cell 1;have ayp:=rB.out.size;by_cases aJ:k<ss.length
    ·obtain⟨s,hs⟩:∃s,ss[k]?=some s:=⟨_,aS aJ⟩
     obtain⟨g,hg⟩:∃g,gs[k]?=some g:=⟨_,aS (by rw[EN.out.len];exact aJ)⟩;have hz:(gs.zip ss)[k]?=some (g,s):=by rw[List.getElem?_zip_eq_some];exact⟨hg,hs⟩
     have xX:=bU hg;have aM:=KA.out g xX;have hgG:=EN.out.aT g xX;have EE:=Gh.out s (bU hs);have a4:wr.cell? ⟨w.heap.size,4,none⟩=some (.int .i64 mark):=Ak.cell 4;have TK:=aqc (mark:=mark) hz;obtain⟨d0,d1,d2⟩:=ac3 HX.out TK;have vP:=KB.out k g s hg hs;rw[ak (by omega)] at vP;have w4:IntKind.i64.wrap (mark+4)=mark+4:=by rw[cU];omega
     have w5':IntKind.i64.wrap (mark+4+(k:Int))=mark+4+(k:Int):=by rw[cU];omega
     have w6:IntKind.i64.wrap (-mark) = -mark:=by rw[cU];omega
     have w7:IntKind.i64.wrap (-mark-3) = -mark-3:=by rw[cU];omega
     have e3:(s.bS.map (Value.int .i64)).toArray.size=s.bS.length:=by simp
     have eH:=gE wr none;have jq:=Sz g s.bS.length (s.bS.map (Value.int .i64)).toArray (mark+4+k) wr.drew (vP.kept eH (by simp)) (fun i hi=>by rw[e3] at hi;exact⟨s.bS[i],by simp[hi]⟩) (by omega) (by omega) (by omega);rw[TI,e3] at jq;have HC:=ae jq;have OR:=ae (aqd (mark:=mark) hz);have Hrg:=ae TK;have Hg:=ae hg;have Hs:=ae hs;have Hgm:=ae xX;have Xd:=ae (HX.out.kept eH (by simp));have Fd:=ae (rB.out.iK (S:=fun q=>q=G\/q∈gs) eH (fun g h=>by cases h));have adg:=ae (KB.out.kept eH);have Ad:=ae (Ak.kept eH (by simp));clear eH jq vP hz hg hs xX TK HX KB rB Ak;obtain⟨sk,sf,CX⟩:=s;simp only[cT] at d0 d1 d2;simp only at EE HC e3;go_wp2_with fail;go_still_tail 11,(by kernel_rfl);show wpList _ _ _ _ _ wr.drew;clear a1 a4 d0 d1 d2;generalize wr.drew=wd at *;go_wp2_with fail;refine HC.out.mono ?_;rintro e w8⟨rfl,hb8,pa⟩;have X8:=Xd.out.kept pa (by intro e;injection e with e;omega);have A8:=Ad.out.kept pa (by intro e;injection e with e;omega);have a1:w8.cell? ⟨w.heap.size,1,none⟩=some (.slice (some ⟨G,0,none⟩) ss.length ss.length):=A8.cell 1;have a4:w8.cell? ⟨w.heap.size,4,none⟩=some (.int .i64 mark):=A8.cell 4;obtain⟨d0,d1,d2⟩:=ac3 X8 Hrg.out;have f0:=X8.free (k*3);have f2:=X8.free (k*3+2);have hl8:=X8.lt;have adi:=ae (adg.out.next EN.out.AZ Hg.out Hs.out pa hb8);have s1:=bD w8 G (k*3+2) (.int .i64 (-mark-3));have s2:=bD (w8.setCell ⟨G,k*3+2,none⟩ (.int .i64 (-mark-3))) G (k*3) (.int .i64 (-7));have TL:=ae ((X8.set (k*3+2) (.int .i64 (-mark-3))).set (k*3) (.int .i64 (-7)));rw[aqg Hrg.out _ (.int .i64 (-7)) rfl] at TL;have aqk:Hid (aj ((w8.setCell ⟨G,k*3+2,none⟩ (.int .i64 (-mark-3))).setCell ⟨G,k*3,none⟩ (.int .i64 (-7))) G 152 ((wI mark (gs.zip ss) (k+1)).flatMap tM).toArray):=by
      rw[<-OR.out];exact TL.out
     have aql:=ae (adi.out.bN (aC s1 s2) (fun g h=>by have:=EN.out.aT g h;omega));have aqm:=ae ((Fd.out.iK pa (fun q hq=>.inr (.inr (by injection hq with hq;subst hq;exact Hgm.out)))).iK (aC s1 s2) (fun q hq=>.inr (.inl (by injection hq with hq;exact hq.symm))));have ey:w.heap.size≠G:=by omega
     clear X8 A8 hb8 pa TL adi s1 s2 Xd Ad Fd adg OR HC;go_wp2;go_roundw
     case rel=>exact⟨k+1,by omega,by go_num,aqk.out,aql.out,aqm.out⟩
     case measure=>simp[intOf];omega
    ·obtain rfl:k=ss.length:=by omega
     have TM:∀q,(q=G\/q∈gs)->q∈(oJ g0 G gs g2 g3 mark bs ss is us).iG:=by
      intro q hq;rcases hq with rfl|hq
      ·simp[Td.iG,oJ]
      ·unfold Td.iG oJ
       iterate 4 refine sZ _ ?_
       obtain⟨j,hj⟩:=mQ hq;have ko:=M.bP hj;obtain⟨s,hs⟩:∃s,ss[j]?=some s:=⟨_,aS (by rw[<-EN.out.len];exact ko)⟩;have hz:(gs.zip ss)[j]?=some (q,s):=by rw[List.getElem?_zip_eq_some];exact⟨hj,hs⟩
       simp only[List.map_map];exact List.mem_map.mpr ⟨(q,s),bU hz,rfl⟩
     have me:∀q,(q=G\/q∈gs)->g0<q/\q<g2:=by
      intro q hq;rcases hq with rfl|hq
      ·exact⟨o0,o4⟩
      ·have:=KA.out q hq;have:=EN.out.aT q hq;omega
     have vP:∀q,q∈(oJ g0 G gs g2 g3 mark bs ss is us).iG->g0<=q/\q<=g3:=by
      intro q hq;simp only[Td.iG,oJ,List.mem_cons,List.map_map] at hq;rcases hq with rfl|rfl|rfl|rfl|hq
      ·omega
      ·omega
      ·omega
      ·omega
      ·obtain⟨z,hz,rfl⟩:=List.mem_map.mp hq
       have:=me z.1 (.inr (List.of_mem_zip hz).1);show g0<=z.1/\z.1<=g3;omega
     have TN:=ae (OQ.out.trans (rB.out.mono (S':=fun k=>k=b\/k∈(oJ g0 G gs g2 g3 mark bs ss is us).iG) (fun q _ h=>.inr (TM q h))));have EO:=ae (TN.out.jI HT.out (fun g hg h=>by
      have h2:=OP.out g hg;rcases h with h|h
      ·exact h2.2 h
      ·have:=vP g h;omega))
     have Lr:=rB.out.gy NI.out (fun h=>by have:=me _ h;omega);have Br:=ae (rB.out.gy oE.out (fun h=>by have:=me _ h;omega));have Ir:=ae (rB.out.gy rU.out (fun h=>by have:=me _ h;omega));have Or:=ae (rB.out.gy HO5.out (fun h=>by have:=me _ h;omega));have adj:Hid (ry wr (oJ g0 G gs g2 g3 mark bs ss is us)):=by
      refine⟨m0,m1,⟨nb,?_,ni,no⟩,?_,Br.out,?_,Ir.out,Or.out,?_⟩
      ·show((gs.zip ss).map _).length<=1000;rw[jb,Hz.out];exact ns
      ·intro p hp
       obtain⟨z,hz,rfl⟩:=List.mem_map.mp hp;exact Gh.out z.2 (List.of_mem_zip hz).2
      ·have e:=HX.out
       rw[<-Hz.out,aqf] at e;exact e
      ·intro q p hp
       have iJ:((gs.zip ss).map fun p=>(p.1,p.2.bS.length))[q]?=some p:=hp;rw[dV] at iJ;obtain⟨z,hz,rfl⟩:=Option.map_eq_some_iff.1 iJ;rw[List.getElem?_zip_eq_some] at hz;have e:=KB.out q z.1 z.2 hz.1 hz.2;rw[ay (M.bP hz.2)] at e;exact e
     have c7:wr.cell? ⟨b,7,none⟩=some vt:=Lr.cell 7;have a0:wr.cell? ⟨w.heap.size,0,none⟩=some (.slice (some ⟨g0,0,none⟩) bs.length bs.length):=Ak.cell 0;have a2:wr.cell? ⟨w.heap.size,2,none⟩=some (.slice (some ⟨g2,0,none⟩) is.length is.length):=Ak.cell 2;have a3:wr.cell? ⟨w.heap.size,3,none⟩=some (.slice (some ⟨g3,0,none⟩) us.length us.length):=Ak.cell 3;have a4:wr.cell? ⟨w.heap.size,4,none⟩=some (.int .i64 mark):=Ak.cell 4;have y0:=cell_regrown a0;have y1:=cell_regrown a1;have y2:=cell_regrown a2;have y3:=cell_regrown a3;have y4:=cell_regrown a4;have y7:=cell_regrown c7;have EP:=ae Lr;have Hbk:=ae vP;have ays:w.heap.size+1<=wr.heap.size:=by omega
     go_wp2_with fail;clear a0 a1 a2 a3 a4 c7 Lr Br Ir Or rB KB HX Ak TM me vP mY oE NI rU HO5 OQ;refine CR 5 6 (fun w'=>∃p:Regrown,w'=Go.Sort.grow (redrawn wr p.d) p.os) (wr.drew.alloc (.cells #[.slice (some ⟨g0,0,none⟩) bs.length bs.length,.slice (some ⟨G,0,none⟩) ss.length ss.length,.slice (some ⟨g2,0,none⟩) is.length is.length,.slice (some ⟨g3,0,none⟩) us.length us.length,.int .i64 mark] 119)) (by kernel_rfl) (by kernel_rfl) (by decide) ⟨⟨wr.drawn+1,#[]⟩,by rw[Go.Sort.grow_empty];rfl⟩ ⟨⟨wr.drawn+1,#[.cells #[.slice (some ⟨g0,0,none⟩) bs.length bs.length,.slice (some ⟨G,0,none⟩) ss.length ss.length,.slice (some ⟨g2,0,none⟩) is.length is.length,.slice (some ⟨g3,0,none⟩) us.length us.length,.int .i64 mark] 119]⟩,rfl⟩ ?_;simp only[List.take_succ_cons,List.take_zero,List.drop_succ_cons,List.drop_zero]
     repeat (refine zF (by decide) (fun K hK=>?_);go_simp;refine hK _ ?_;clear hK K)
     refine CS (.slice (some ⟨wr.heap.size,0,none⟩) 1 1) ?hw ?hr ?_
     case hw=>rfl
     case hr=>go_simp
     refine CT ?_;clear y0 y1 y2 y3 y4 y7;have P2:=ae (eY EO.out (gE wr none));go_wp2_with(at_builtin;refine wpList_append_lies _ rfl _ _ 28 rfl base 119 ip (.agg #[.slice none 0 0,.slice none 0 0,.slice none 0 0,.slice none 0 0,.int .i64 0]) 5 104 underlying28 JJ Fo eW gj rfl (by decide) _ _ _ rfl (lB P2.out _) ⟨wr.heap.size,0,none⟩ 1 1 [.slice (some ⟨g0,0,none⟩) bs.length bs.length,.slice (some ⟨G,0,none⟩) ss.length ss.length,.slice (some ⟨g2,0,none⟩) is.length is.length,.slice (some ⟨g3,0,none⟩) us.length us.length,.int .i64 mark] rfl rfl ?c1 ?c2 ?c3 ?c4 ?c5 ?c6 (wr.heap.size+1) ?c7 ?_)
     case c1=>exact kb wr.drew 119 #[.slice (some ⟨g0,0,none⟩) bs.length bs.length,.slice (some ⟨G,0,none⟩) ss.length ss.length,.slice (some ⟨g2,0,none⟩) is.length is.length,.slice (some ⟨g3,0,none⟩) us.length us.length,.int .i64 mark]
     case c2=>intro u hu;simp at hu;rcases hu with rfl|rfl|rfl|rfl|rfl<;>rfl
     case c3=>decide
     case c4=>unfold maxLen;omega
     case c5=>omega
     case c6=>simp;omega
     case c7=>simp
     intro gt ct w9 cB cR jr adl;have bq:wr.grownBy w9 vt.ownBlock:=aC (aC (aQ wr _ _) (gE _ _)) cR;have ey:∀q,g0<=q->some q≠vt.ownBlock:=fun q hq e=>by have:=OP.out q e.symm;omega
     have L9:=EP.out.kept bq (fun e=>(OP.out b e.symm).2 rfl);have S9:=ae (adj.out.kept (Fr.uI bq) (fun g hg e=>ey g (Hbk.out g hg).1 e));have c9:w9.cell? ⟨b,7,none⟩=some vt:=L9.cell 7;have f9:=L9.free 7;have l9:=L9.lt;have gtb:gt≠b:=by
      rcases jr with h|h
      ·exact(OP.out gt h).2
      ·omega
     have cC:=bD w9 b 7 (.slice (some ⟨gt,0,none⟩) (n+1) ct);have HL9:Hid (LW (w9.setCell ⟨b,7,none⟩ (.slice (some ⟨gt,0,none⟩) (n+1) ct)) b vp vl vw va vn ve vr (.slice (some ⟨gt,0,none⟩) (n+1) ct) (.int .i64 (mark+4+ss.length)) vo):=L9.set 7 (.slice (some ⟨gt,0,none⟩) (n+1) ct);have HO9:=ae (iF cB cC (fun g hg e=>by have h1:some gt=some g:=hg;injection h1 with h1;injection e with e;exact gtb (h1.trans e)));have TH:=ae (S9.out.kept (Fr.uI cC) (fun g hg e=>by injection e with e;have:=(Hbk.out g hg).1;omega));have TG:=ae (((TN.out.mono (S':=fun k=>k=b\/vt.ownBlock=some k\/k∈(oJ g0 G gs g2 g3 mark bs ss is us).iG) (fun q _ h=>by rcases h with h|h;exact .inl h;exact .inr (.inr h))).iK bq (fun g hg=>.inr (.inr (.inl hg)))).iK cC (fun g hg=>.inr (.inl (by injection hg with hg;exact hg.symm))));have wJ:Hid (vt.ownBlock=some gt\/w.heap.size<gt):=jr.imp id (fun h=>by omega);clear cB cR jr bq L9 S9 cC ey gtb EP EO P2 adj TN;go_wp2;go_end0;exact⟨rfl,gt,ct,HL9.out,by unfold Td.val oJ;rw[jb,Hz.out];exact HO9.out,TH.out,wJ.out,TG.out⟩
end Go.Proofs.YtcnhfffgbamonaaGreat
