import Derived.Lib.Strings
import Derived.Test.YtcnhfffgbamonaaGreatZ02
import Derived.Test.YtcnhfffgbamonaaGreatZ03
import Derived.Test.YtcnhfffgbamonaaGreatZ04
set_option maxRecDepth 100000
set_option maxHeartbeats 6400000
namespace Go.Proofs.YtcnhfffgbamonaaGreat
open Go.Proofs.Tryz
open Go.RowKit
theorem Tryz.de:(prog.info? 142).map (·.size)=some 16:=by kernel_rfl
theorem oe(af a b we bi to size aE:Int)(same:Bool)(ao:Option Addr)(m c:Nat)(lo hi aT below left right:Int):(aR af a b we bi to size aE same (.slice ao m c) lo hi aT below left right).all (·.oneCell')=true:=by
 simp[Value.oneCell']
theorem vB(w:World)(g:Nat)(cs:Array Value):w.grownBy (w.setRow g cs) (some g) :=
 ⟨rfl,rfl,rfl,by simp,fun k _ hk=>setRow_other w g k _ (fun e=>hk (by simp[e]))⟩
theorem Ac{T:TypeId}{z:Array Value}{w0 w1:World}{b:Nat}{s:ByteArray}{r:M.RS}{cs:Array Value}(h:fX T z w0 w1 b s r cs)(vs:Array Value) :
  Rd (w1.setRow w0.heap.size vs) b s r/\w1.grownBy (w1.setRow w0.heap.size vs) (some w0.heap.size)/\aj (w1.setRow w0.heap.size vs) w0.heap.size T vs:=by
 have hb:=h.hb;exact⟨aj.kept h.R (vB _ _ _) (by simp;omega),vB _ _ _,setRow_heap _ _ _ _ _ _ h.G⟩
theorem Qt(k:Int)(hk:0<=k/\k<=10)(b L:Nat)(s:ByteArray)(r:M.RS)(a bb we bi to:Int)(w:World)(h:Rd w b s r)(hB:aj w L 142 (aR k a bb we bi to 0 0 false (.slice none 0 0) 0 0 0 0 0 0))(ne:b≠L)(hp:r.bG<=s.size)(hs:s.size<=4096) :
  Calls prog 185 #[.pointer (some ⟨b,0,none⟩),.pointer (some ⟨L,0,none⟩)] w fun e w'=>∃size aE same ao m c xs lo hi aT below left right r',Hid (M.j7 s ⟨k,a,bb,we,bi,to,0,0,false,[],0,0,0,0,0,0⟩ r=(⟨k,a,bb,we,bi,to,size,aE,same,xs,lo,hi,aT,below,left,right⟩,r')) /\
   (0<=size/\size<=255)/\(0<=aE/\aE<=255)/\(-128<=lo/\lo<=127)/\(-128<=hi/\hi<=127)/\(0<=aT/\aT<=255)/\(0<=below/\below<=255)/\(0<=left/\left<=255)/\(0<=right/\right<=255)/\(∀c∈xs,qQ c) /\
   r'.bG<=s.size/\e=.returned (.tuple #[])/\aj w' L 142 (aR k a bb we bi to size aE same (.slice ao m c) lo hi aT below left right)/\gF w' w.heap.size (.slice ao m c) xs/\Rd w' b s r'/\gO w w' b L:=by
 rcases(show k=0\/k=1\/k=2\/k=3\/k=4\/k=5\/k=6\/k=7\/k=8\/k=9\/k=10 from by omega) with rfl|rfl|rfl|rfl|rfl|rfl|rfl|rfl|rfl|rfl|rfl
 ·exact ah6 b L s r a bb we bi to w h hB ne hp hs
 ·exact aib b L s r a bb we bi to w h hB ne hp hs
 ·exact aic b L s r a bb we bi to w h hB ne hp hs
 ·exact aid b L s r a bb we bi to w h hB ne hp hs
 ·exact aie b L s r a bb we bi to w h hB ne hp hs
 ·exact aif b L s r a bb we bi to w h hB ne hp hs
 ·exact aih b L s r a bb we bi to w h hB ne hp hs
 ·exact ah7 b L s r a bb we bi to w h hB ne hp hs
 ·exact ah8 b L s r a bb we bi to w h hB ne hp hs
 ·exact ah9 b L s r a bb we bi to w h hB ne hp hs
 ·exact aia b L s r a bb we bi to w h hB ne hp hs
theorem fX.cT{z:Array Value}{w0 w1 w2:World}{b:Nat}{s:ByteArray}{r r':M.RS}{cs ua:Array Value}(h:fX 142 z w0 w1 b s r cs)(hR:Rd w2 b s r')(hB:aj w2 (w0.heap.size+1) 142 ua)(hg:gO w1 w2 b (w0.heap.size+1)):fX 142 z w0 w2 b s r' ua:=by
 have hb:=h.hb;refine⟨hR,hB,?_,gO.ah5 h.g hg (by omega),hb⟩;have hG:=h.G;have aJ:=hG.lt;unfold aj at hG ⊢;rw[hg.block _ aJ (by omega) (by omega)];exact hG
theorem Qu{s:ByteArray}{r r1 r2 r3 r4 r5:M.RS}{k a we bi b2 to:Int}{o:M.Op×M.RS}(h1:M.ji s 1 10 r=(k,r1))(h2:M.plain s r1=(a,r2))
  (h3:(if M.cm k=true then (((M.plain s r2).1,(M.plain s (M.plain s r2).2).1),(M.plain s (M.plain s r2).2).2) else ((0,0),r2))=(((we,bi),r3):(Int×Int)×M.RS))
  (h4:(if M.dr k=true then M.plain s r3 else (0,r3))=(b2,r4)) (h5:M.plain s r4=(to,r5)) (h6:M.j7 s ⟨k,a,b2,we,bi,to,0,0,false,[],0,0,0,0,0,0⟩ r5=o):M.op s r=o:=by
 simp only[M.op,h1,h2,h3,h4,h5,h6]
theorem WA{k:Int}(h:M.cm k=true):M.dr k=false:=by
 unfold M.cm at h;unfold M.dr;simp only[Bool.or_eq_true,beq_iff_eq] at h;rcases h with(rfl|rfl)|rfl<;>rfl
theorem aii(b:Nat)(s:ByteArray)(r:M.RS)(w:World)(h:Rd w b s r)(hp:r.bG<=s.size)(hs:s.size<=4096)(hc:M.cm (M.ji s 1 10 r).1=true)(hd:M.dr (M.ji s 1 10 r).1=false) :
  Calls prog 163 #[.pointer (some ⟨b,0,none⟩)] w fun e w'=>∃o ao m c r',Hid (M.op s r=(o,r'))/\mb o/\r'.bG<=s.size/\e=.returned (.agg (aO o (.slice ao m c)))/\gF w' w.heap.size (.slice ao m c) o.bM/\Rd w' b s r'/\w.grownBy w' (some b):=by
 have I0:=fX.start (T:=142) (z:=(aR 0 0 0 0 0 0 0 0 false (.slice none 0 0) 0 0 0 0 0 0)) h;have Hc:=ae hc;have Hd:=ae hd;clear hc hd;go_enter func163,ntmps163;go_wp2_with fail;refine(Fm b s r 1 10 _ I0.R hp (by omega) (by omega) (by omega) (by omega)).mono ?_;rintro e w1 ⟨x1,r1,dg,l1,u1,eW,rfl,gK,aH⟩;have J1:fX 142 (aR 0 0 0 0 0 0 0 0 false (.slice none 0 0) 0 0 0 0 0 0) w w1 b s r1 (aR 0 0 0 0 0 0 0 0 false (.slice none 0 0) 0 0 0 0 0 0):=I0.call gK aH;clear aH gK I0;have a1:w1.cell? ⟨w.heap.size+1,0,none⟩=some (.int .i64 0):=J1.L.cell 0;have b1:=J1.L.free 0;have K1:fX 142 (aR 0 0 0 0 0 0 0 0 false (.slice none 0 0) 0 0 0 0 0 0) w (w1.setCell ⟨w.heap.size+1,0,none⟩ (.int .i64 x1)) b s r1 (aR x1 0 0 0 0 0 0 0 false (.slice none 0 0) 0 0 0 0 0 0):=J1.put 0 (.int .i64 x1);clear J1;rw[dg.out] at Hc Hd;go_wp2_with fail;refine(jO b s r1 _ K1.R eW (by omega)).mono ?_;rintro e w2 ⟨x2,r2,dL,l2,u2,gj,rfl,gN,aM⟩;have J2:fX 142 (aR 0 0 0 0 0 0 0 0 false (.slice none 0 0) 0 0 0 0 0 0) w w2 b s r2 (aR x1 0 0 0 0 0 0 0 false (.slice none 0 0) 0 0 0 0 0 0):=K1.call gN aM;clear aM gN K1 a1 b1;have a2:w2.cell? ⟨w.heap.size+1,1,none⟩=some (.int .i64 0):=J2.L.cell 1;have b2:=J2.L.free 1;have K2:fX 142 (aR 0 0 0 0 0 0 0 0 false (.slice none 0 0) 0 0 0 0 0 0) w (w2.setCell ⟨w.heap.size+1,1,none⟩ (.int .i64 x2)) b s r2 (aR x1 x2 0 0 0 0 0 0 false (.slice none 0 0) 0 0 0 0 0 0):=J2.put 1 (.int .i64 x2);clear J2;go_wp2_with (refine dj rfl 142 _ rfl (w.heap.size+1) rfl 142 (aR x1 x2 0 0 0 0 0 0 false (.slice none 0 0) 0 0 0 0 0 0) (0,0) _ K2.L underlying142 rfl Tryz.de ?_);refine(rI _ _ _ _ _ _ _ _ _ _ _ _ _ _ _ _ true _ Hc.out).mono ?_;rintro e w3 ⟨rfl,aU⟩;have J3:=K2.gZ aU;clear aU K2 a2 b2;go_wp2_with fail;refine(jO b s r2 _ J3.R gj (by omega)).mono ?_
 rintro e w4 ⟨x4,r4,gY,l4,u4,mG,rfl,jk,bm⟩;have J4:fX 142 (aR 0 0 0 0 0 0 0 0 false (.slice none 0 0) 0 0 0 0 0 0) w w4 b s r4 (aR x1 x2 0 0 0 0 0 0 false (.slice none 0 0) 0 0 0 0 0 0):=J3.call jk bm;clear bm jk J3;have a4:w4.cell? ⟨w.heap.size+1,3,none⟩=some (.int .i64 0):=J4.L.cell 3;have b4:=J4.L.free 3;have K4:fX 142 (aR 0 0 0 0 0 0 0 0 false (.slice none 0 0) 0 0 0 0 0 0) w (w4.setCell ⟨w.heap.size+1,3,none⟩ (.int .i64 x4)) b s r4 (aR x1 x2 0 x4 0 0 0 0 false (.slice none 0 0) 0 0 0 0 0 0):=J4.put 3 (.int .i64 x4);clear J4;go_wp2_with fail;refine(jO b s r4 _ K4.R mG (by omega)).mono ?_;rintro e w5 ⟨x5,r5,qP,l5,u5,qh,rfl,j9,cK⟩;have J5:fX 142 (aR 0 0 0 0 0 0 0 0 false (.slice none 0 0) 0 0 0 0 0 0) w w5 b s r5 (aR x1 x2 0 x4 0 0 0 0 false (.slice none 0 0) 0 0 0 0 0 0):=K4.call j9 cK;clear cK j9 K4 a4 b4;have a5:w5.cell? ⟨w.heap.size+1,4,none⟩=some (.int .i64 0):=J5.L.cell 4;have b5:=J5.L.free 4;have K5:fX 142 (aR 0 0 0 0 0 0 0 0 false (.slice none 0 0) 0 0 0 0 0 0) w (w5.setCell ⟨w.heap.size+1,4,none⟩ (.int .i64 x5)) b s r5 (aR x1 x2 0 x4 x5 0 0 0 false (.slice none 0 0) 0 0 0 0 0 0):=J5.put 4 (.int .i64 x5);clear J5;go_wp2_with (refine dj rfl 142 _ rfl (w.heap.size+1) rfl 142 (aR x1 x2 0 x4 x5 0 0 0 false (.slice none 0 0) 0 0 0 0 0 0) (0,0) _ K5.L underlying142 rfl Tryz.de ?_);refine(L3 _ _ _ _ _ _ _ _ _ _ _ _ _ _ _ _ false _ Hd.out).mono ?_;rintro e w6 ⟨rfl,fE⟩;have J6:=K5.gZ fE;clear fE K5 a5 b5;go_wp2_with fail;refine(jO b s r5 _ J6.R qh (by omega)).mono ?_;rintro e w7 ⟨x7,r7,z7,l7,u7,z9,rfl,sQ,dJ⟩;have J7:fX 142 (aR 0 0 0 0 0 0 0 0 false (.slice none 0 0) 0 0 0 0 0 0) w w7 b s r7 (aR x1 x2 0 x4 x5 0 0 0 false (.slice none 0 0) 0 0 0 0 0 0):=J6.call sQ dJ;clear dJ sQ J6;have a7:w7.cell? ⟨w.heap.size+1,5,none⟩=some (.int .i64 0):=J7.L.cell 5
 have b7:=J7.L.free 5;have K7:fX 142 (aR 0 0 0 0 0 0 0 0 false (.slice none 0 0) 0 0 0 0 0 0) w (w7.setCell ⟨w.heap.size+1,5,none⟩ (.int .i64 x7)) b s r7 (aR x1 x2 0 x4 x5 x7 0 0 false (.slice none 0 0) 0 0 0 0 0 0):=J7.put 5 (.int .i64 x7);clear J7;go_wp2_with fail;have eD:=K7.hb;have zz:=K7.g.size;have zl:=K7.L.lt;refine(Qt x1 ⟨l1,u1⟩ b (w.heap.size+1) s r7 _ _ _ _ _ _ K7.R K7.L (by omega) z9 hs).mono ?_;rintro e wf ⟨size,aE,same,ao,m,cp,xs,lo,hi,aT,below,left,right,rf,Im,y1,y2,y3,y4,y5,y6,y7,y8,qR,Io,rfl,g6,Ip,sR,fY⟩;have Jf:fX 142 (aR 0 0 0 0 0 0 0 0 false (.slice none 0 0) 0 0 0 0 0 0) w wf b s rf (aR x1 x2 0 x4 x5 x7 size aE same (.slice ao m cp) lo hi aT below left right):=K7.cT sR g6 fY;clear fY sR g6 K7 a7 b7;go_wp2_with (first|(refine dj rfl 142 _ rfl (w.heap.size+1) rfl 142 (aR x1 x2 0 x4 x5 x7 size aE same (.slice ao m cp) lo hi aT below left right) (0,0) _ Jf.L underlying142 rfl Tryz.de ?_)|(refine aaY rfl 142 _ _ rfl w.heap.size (aR x1 x2 0 x4 x5 x7 size aE same (.slice ao m cp) lo hi aT below left right) rfl rfl 142 (aR 0 0 0 0 0 0 0 0 false (.slice none 0 0) 0 0 0 0 0 0) Jf.G Tryz.de rfl (oe ..) ?_));have Iq:=(Ac Jf (aR x1 x2 0 x4 x5 x7 size aE same (.slice ao m cp) lo hi aT below left right)).1;have BJ:=(Ac Jf (aR x1 x2 0 x4 x5 x7 size aE same (.slice ao m cp) lo hi aT below left right)).2.1;have Is:=(Ac Jf (aR x1 x2 0 x4 x5 x7 size aE same (.slice ao m cp) lo hi aT below left right)).2.2;refine bodyPost_ret (v:=.agg (aR x1 x2 0 x4 x5 x7 size aE same (.slice ao m cp) lo hi aT below left right)) ?hr rfl ?_
 case hr=>exact results_cell_row Tryz.results163 _ _ w.heap.size 142 (aR x1 x2 0 x4 x5 x7 size aE same (.slice ao m cp) lo hi aT below left right) (0,0) _ rfl Is underlying142 rfl Tryz.de
 have he:=Qu (r3:=r5) dg.out dL.out (by rw[ay Hc.out];simp only[gY.out,qP.out]) (by rw[ak (by rw[Hd.out];simp)]) z7.out Im.out;refine⟨⟨x1,x2,0,x4,x5,x7,size,aE,same,xs,lo,hi,aT,below,left,right⟩,ao,m,cp,rf,he,?_,Io,rfl,?_,Iq,dF Jf.g BJ (bj _)⟩
 ·exact⟨⟨l1,u1⟩,⟨l2,u2⟩,by simp only;omega,by simp only;omega,by simp only;omega,by simp only;omega,y1,y2,y3,y4,y5,y6,y7,y8,qR⟩
 ·exact nC (px Ip BJ (by simp at zl ⊢;omega)) (by simp at zz ⊢;omega)
theorem aij(b:Nat)(s:ByteArray)(r:M.RS)(w:World)(h:Rd w b s r)(hp:r.bG<=s.size)(hs:s.size<=4096)(hc:M.cm (M.ji s 1 10 r).1=false)(hd:M.dr (M.ji s 1 10 r).1=true) :
  Calls prog 163 #[.pointer (some ⟨b,0,none⟩)] w fun e w'=>∃o ao m c r',Hid (M.op s r=(o,r'))/\mb o/\r'.bG<=s.size/\e=.returned (.agg (aO o (.slice ao m c)))/\gF w' w.heap.size (.slice ao m c) o.bM/\Rd w' b s r'/\w.grownBy w' (some b):=by
 have I0:=fX.start (T:=142) (z:=(aR 0 0 0 0 0 0 0 0 false (.slice none 0 0) 0 0 0 0 0 0)) h;have Hc:=ae hc;have Hd:=ae hd;clear hc hd;go_enter func163,ntmps163;go_wp2_with fail;refine(Fm b s r 1 10 _ I0.R hp (by omega) (by omega) (by omega) (by omega)).mono ?_;rintro e w1 ⟨x1,r1,dg,l1,u1,eW,rfl,gK,aH⟩;have J1:fX 142 (aR 0 0 0 0 0 0 0 0 false (.slice none 0 0) 0 0 0 0 0 0) w w1 b s r1 (aR 0 0 0 0 0 0 0 0 false (.slice none 0 0) 0 0 0 0 0 0):=I0.call gK aH;clear aH gK I0;have a1:w1.cell? ⟨w.heap.size+1,0,none⟩=some (.int .i64 0):=J1.L.cell 0;have b1:=J1.L.free 0;have K1:fX 142 (aR 0 0 0 0 0 0 0 0 false (.slice none 0 0) 0 0 0 0 0 0) w (w1.setCell ⟨w.heap.size+1,0,none⟩ (.int .i64 x1)) b s r1 (aR x1 0 0 0 0 0 0 0 false (.slice none 0 0) 0 0 0 0 0 0):=J1.put 0 (.int .i64 x1);clear J1;rw[dg.out] at Hc Hd;go_wp2_with fail;refine(jO b s r1 _ K1.R eW (by omega)).mono ?_;rintro e w2 ⟨x2,r2,dL,l2,u2,gj,rfl,gN,aM⟩;have J2:fX 142 (aR 0 0 0 0 0 0 0 0 false (.slice none 0 0) 0 0 0 0 0 0) w w2 b s r2 (aR x1 0 0 0 0 0 0 0 false (.slice none 0 0) 0 0 0 0 0 0):=K1.call gN aM;clear aM gN K1 a1 b1;have a2:w2.cell? ⟨w.heap.size+1,1,none⟩=some (.int .i64 0):=J2.L.cell 1;have b2:=J2.L.free 1;have K2:fX 142 (aR 0 0 0 0 0 0 0 0 false (.slice none 0 0) 0 0 0 0 0 0) w (w2.setCell ⟨w.heap.size+1,1,none⟩ (.int .i64 x2)) b s r2 (aR x1 x2 0 0 0 0 0 0 false (.slice none 0 0) 0 0 0 0 0 0):=J2.put 1 (.int .i64 x2);clear J2;go_wp2_with (refine dj rfl 142 _ rfl (w.heap.size+1) rfl 142 (aR x1 x2 0 0 0 0 0 0 false (.slice none 0 0) 0 0 0 0 0 0) (0,0) _ K2.L underlying142 rfl Tryz.de ?_);refine(rI _ _ _ _ _ _ _ _ _ _ _ _ _ _ _ _ false _ Hc.out).mono ?_;rintro e w3 ⟨rfl,aU⟩;have J3:=K2.gZ aU;clear aU K2 a2 b2
 go_wp2_with (refine dj rfl 142 _ rfl (w.heap.size+1) rfl 142 (aR x1 x2 0 0 0 0 0 0 false (.slice none 0 0) 0 0 0 0 0 0) (0,0) _ J3.L underlying142 rfl Tryz.de ?_);refine(L3 _ _ _ _ _ _ _ _ _ _ _ _ _ _ _ _ true _ Hd.out).mono ?_;rintro e w4 ⟨rfl,bm⟩;have J4:=J3.gZ bm;clear bm J3;go_wp2_with fail;refine(jO b s r2 _ J4.R gj (by omega)).mono ?_;rintro e w5 ⟨x5,r5,qP,l5,u5,qh,rfl,j9,cK⟩;have J5:fX 142 (aR 0 0 0 0 0 0 0 0 false (.slice none 0 0) 0 0 0 0 0 0) w w5 b s r5 (aR x1 x2 0 0 0 0 0 0 false (.slice none 0 0) 0 0 0 0 0 0):=J4.call j9 cK;clear cK j9 J4;have a5:w5.cell? ⟨w.heap.size+1,2,none⟩=some (.int .i64 0):=J5.L.cell 2;have b5:=J5.L.free 2;have K5:fX 142 (aR 0 0 0 0 0 0 0 0 false (.slice none 0 0) 0 0 0 0 0 0) w (w5.setCell ⟨w.heap.size+1,2,none⟩ (.int .i64 x5)) b s r5 (aR x1 x2 x5 0 0 0 0 0 false (.slice none 0 0) 0 0 0 0 0 0):=J5.put 2 (.int .i64 x5);clear J5;go_wp2_with fail;refine(jO b s r5 _ K5.R qh (by omega)).mono ?_;rintro e w6 ⟨x6,r6,tZ,l6,u6,yF,rfl,lN,fE⟩;have J6:fX 142 (aR 0 0 0 0 0 0 0 0 false (.slice none 0 0) 0 0 0 0 0 0) w w6 b s r6 (aR x1 x2 x5 0 0 0 0 0 false (.slice none 0 0) 0 0 0 0 0 0):=K5.call lN fE;clear fE lN K5 a5 b5;have a6:w6.cell? ⟨w.heap.size+1,5,none⟩=some (.int .i64 0):=J6.L.cell 5;have b6:=J6.L.free 5;have K6:fX 142 (aR 0 0 0 0 0 0 0 0 false (.slice none 0 0) 0 0 0 0 0 0) w (w6.setCell ⟨w.heap.size+1,5,none⟩ (.int .i64 x6)) b s r6 (aR x1 x2 x5 0 0 x6 0 0 false (.slice none 0 0) 0 0 0 0 0 0):=J6.put 5 (.int .i64 x6);clear J6;go_wp2_with fail;have eD:=K6.hb;have zz:=K6.g.size;have zl:=K6.L.lt;refine(Qt x1 ⟨l1,u1⟩ b (w.heap.size+1) s r6 _ _ _ _ _ _ K6.R K6.L (by omega) yF hs).mono ?_;rintro e wf ⟨size,aE,same,ao,m,cp,xs,lo,hi,aT,below,left,right,rf,Im,y1,y2,y3,y4,y5,y6,y7,y8,qR,Io,rfl,g6,Ip,sR,fY⟩
 have Jf:fX 142 (aR 0 0 0 0 0 0 0 0 false (.slice none 0 0) 0 0 0 0 0 0) w wf b s rf (aR x1 x2 x5 0 0 x6 size aE same (.slice ao m cp) lo hi aT below left right):=K6.cT sR g6 fY;clear fY sR g6 K6 a6 b6;go_wp2_with (first|(refine dj rfl 142 _ rfl (w.heap.size+1) rfl 142 (aR x1 x2 x5 0 0 x6 size aE same (.slice ao m cp) lo hi aT below left right) (0,0) _ Jf.L underlying142 rfl Tryz.de ?_)|(refine aaY rfl 142 _ _ rfl w.heap.size (aR x1 x2 x5 0 0 x6 size aE same (.slice ao m cp) lo hi aT below left right) rfl rfl 142 (aR 0 0 0 0 0 0 0 0 false (.slice none 0 0) 0 0 0 0 0 0) Jf.G Tryz.de rfl (oe ..) ?_));have Iq:=(Ac Jf (aR x1 x2 x5 0 0 x6 size aE same (.slice ao m cp) lo hi aT below left right)).1;have BJ:=(Ac Jf (aR x1 x2 x5 0 0 x6 size aE same (.slice ao m cp) lo hi aT below left right)).2.1;have Is:=(Ac Jf (aR x1 x2 x5 0 0 x6 size aE same (.slice ao m cp) lo hi aT below left right)).2.2;refine bodyPost_ret (v:=.agg (aR x1 x2 x5 0 0 x6 size aE same (.slice ao m cp) lo hi aT below left right)) ?hr rfl ?_
 case hr=>exact results_cell_row Tryz.results163 _ _ w.heap.size 142 (aR x1 x2 x5 0 0 x6 size aE same (.slice ao m cp) lo hi aT below left right) (0,0) _ rfl Is underlying142 rfl Tryz.de
 have he:=Qu dg.out dL.out (by rw[ak (by rw[Hc.out];simp)]) (by rw[ay Hd.out];exact qP.out) tZ.out Im.out;refine⟨⟨x1,x2,x5,0,0,x6,size,aE,same,xs,lo,hi,aT,below,left,right⟩,ao,m,cp,rf,he,?_,Io,rfl,?_,Iq,dF Jf.g BJ (bj _)⟩
 ·exact⟨⟨l1,u1⟩,⟨l2,u2⟩,by simp only;omega,by simp only;omega,by simp only;omega,by simp only;omega,y1,y2,y3,y4,y5,y6,y7,y8,qR⟩
 ·exact nC (px Ip BJ (by simp at zl ⊢;omega)) (by simp at zz ⊢;omega)
theorem aik(b:Nat)(s:ByteArray)(r:M.RS)(w:World)(h:Rd w b s r)(hp:r.bG<=s.size)(hs:s.size<=4096)(hc:M.cm (M.ji s 1 10 r).1=false)(hd:M.dr (M.ji s 1 10 r).1=false) :
  Calls prog 163 #[.pointer (some ⟨b,0,none⟩)] w fun e w'=>∃o ao m c r',Hid (M.op s r=(o,r'))/\mb o/\r'.bG<=s.size/\e=.returned (.agg (aO o (.slice ao m c)))/\gF w' w.heap.size (.slice ao m c) o.bM/\Rd w' b s r'/\w.grownBy w' (some b):=by
 have I0:=fX.start (T:=142) (z:=(aR 0 0 0 0 0 0 0 0 false (.slice none 0 0) 0 0 0 0 0 0)) h;have Hc:=ae hc;have Hd:=ae hd;clear hc hd;go_enter func163,ntmps163;go_wp2_with fail;refine(Fm b s r 1 10 _ I0.R hp (by omega) (by omega) (by omega) (by omega)).mono ?_;rintro e w1 ⟨x1,r1,dg,l1,u1,eW,rfl,gK,aH⟩;have J1:fX 142 (aR 0 0 0 0 0 0 0 0 false (.slice none 0 0) 0 0 0 0 0 0) w w1 b s r1 (aR 0 0 0 0 0 0 0 0 false (.slice none 0 0) 0 0 0 0 0 0):=I0.call gK aH;clear aH gK I0;have a1:w1.cell? ⟨w.heap.size+1,0,none⟩=some (.int .i64 0):=J1.L.cell 0;have b1:=J1.L.free 0;have K1:fX 142 (aR 0 0 0 0 0 0 0 0 false (.slice none 0 0) 0 0 0 0 0 0) w (w1.setCell ⟨w.heap.size+1,0,none⟩ (.int .i64 x1)) b s r1 (aR x1 0 0 0 0 0 0 0 false (.slice none 0 0) 0 0 0 0 0 0):=J1.put 0 (.int .i64 x1);clear J1;rw[dg.out] at Hc Hd;go_wp2_with fail;refine(jO b s r1 _ K1.R eW (by omega)).mono ?_;rintro e w2 ⟨x2,r2,dL,l2,u2,gj,rfl,gN,aM⟩;have J2:fX 142 (aR 0 0 0 0 0 0 0 0 false (.slice none 0 0) 0 0 0 0 0 0) w w2 b s r2 (aR x1 0 0 0 0 0 0 0 false (.slice none 0 0) 0 0 0 0 0 0):=K1.call gN aM;clear aM gN K1 a1 b1;have a2:w2.cell? ⟨w.heap.size+1,1,none⟩=some (.int .i64 0):=J2.L.cell 1;have b2:=J2.L.free 1;have K2:fX 142 (aR 0 0 0 0 0 0 0 0 false (.slice none 0 0) 0 0 0 0 0 0) w (w2.setCell ⟨w.heap.size+1,1,none⟩ (.int .i64 x2)) b s r2 (aR x1 x2 0 0 0 0 0 0 false (.slice none 0 0) 0 0 0 0 0 0):=J2.put 1 (.int .i64 x2);clear J2;go_wp2_with (refine dj rfl 142 _ rfl (w.heap.size+1) rfl 142 (aR x1 x2 0 0 0 0 0 0 false (.slice none 0 0) 0 0 0 0 0 0) (0,0) _ K2.L underlying142 rfl Tryz.de ?_);refine(rI _ _ _ _ _ _ _ _ _ _ _ _ _ _ _ _ false _ Hc.out).mono ?_;rintro e w3 ⟨rfl,aU⟩;have J3:=K2.gZ aU;clear aU K2 a2 b2
 go_wp2_with (refine dj rfl 142 _ rfl (w.heap.size+1) rfl 142 (aR x1 x2 0 0 0 0 0 0 false (.slice none 0 0) 0 0 0 0 0 0) (0,0) _ J3.L underlying142 rfl Tryz.de ?_);refine(L3 _ _ _ _ _ _ _ _ _ _ _ _ _ _ _ _ false _ Hd.out).mono ?_;rintro e w4 ⟨rfl,bm⟩;have J4:=J3.gZ bm;clear bm J3;go_wp2_with fail;refine(jO b s r2 _ J4.R gj (by omega)).mono ?_;rintro e w5 ⟨x5,r5,qP,l5,u5,qh,rfl,j9,cK⟩;have J5:fX 142 (aR 0 0 0 0 0 0 0 0 false (.slice none 0 0) 0 0 0 0 0 0) w w5 b s r5 (aR x1 x2 0 0 0 0 0 0 false (.slice none 0 0) 0 0 0 0 0 0):=J4.call j9 cK;clear cK j9 J4;have a5:w5.cell? ⟨w.heap.size+1,5,none⟩=some (.int .i64 0):=J5.L.cell 5;have b5:=J5.L.free 5;have K5:fX 142 (aR 0 0 0 0 0 0 0 0 false (.slice none 0 0) 0 0 0 0 0 0) w (w5.setCell ⟨w.heap.size+1,5,none⟩ (.int .i64 x5)) b s r5 (aR x1 x2 0 0 0 x5 0 0 false (.slice none 0 0) 0 0 0 0 0 0):=J5.put 5 (.int .i64 x5);clear J5;go_wp2_with fail;have eD:=K5.hb;have zz:=K5.g.size;have zl:=K5.L.lt;refine(Qt x1 ⟨l1,u1⟩ b (w.heap.size+1) s r5 _ _ _ _ _ _ K5.R K5.L (by omega) qh hs).mono ?_;rintro e wf ⟨size,aE,same,ao,m,cp,xs,lo,hi,aT,below,left,right,rf,Im,y1,y2,y3,y4,y5,y6,y7,y8,qR,Io,rfl,g6,Ip,sR,fY⟩;have Jf:fX 142 (aR 0 0 0 0 0 0 0 0 false (.slice none 0 0) 0 0 0 0 0 0) w wf b s rf (aR x1 x2 0 0 0 x5 size aE same (.slice ao m cp) lo hi aT below left right):=K5.cT sR g6 fY;clear fY sR g6 K5 a5 b5;go_wp2_with (first|(refine dj rfl 142 _ rfl (w.heap.size+1) rfl 142 (aR x1 x2 0 0 0 x5 size aE same (.slice ao m cp) lo hi aT below left right) (0,0) _ Jf.L underlying142 rfl Tryz.de ?_)|(refine aaY rfl 142 _ _ rfl w.heap.size (aR x1 x2 0 0 0 x5 size aE same (.slice ao m cp) lo hi aT below left right) rfl rfl 142 (aR 0 0 0 0 0 0 0 0 false (.slice none 0 0) 0 0 0 0 0 0) Jf.G Tryz.de rfl (oe ..) ?_))
 have Iq:=(Ac Jf (aR x1 x2 0 0 0 x5 size aE same (.slice ao m cp) lo hi aT below left right)).1;have BJ:=(Ac Jf (aR x1 x2 0 0 0 x5 size aE same (.slice ao m cp) lo hi aT below left right)).2.1;have Is:=(Ac Jf (aR x1 x2 0 0 0 x5 size aE same (.slice ao m cp) lo hi aT below left right)).2.2;refine bodyPost_ret (v:=.agg (aR x1 x2 0 0 0 x5 size aE same (.slice ao m cp) lo hi aT below left right)) ?hr rfl ?_
 case hr=>exact results_cell_row Tryz.results163 _ _ w.heap.size 142 (aR x1 x2 0 0 0 x5 size aE same (.slice ao m cp) lo hi aT below left right) (0,0) _ rfl Is underlying142 rfl Tryz.de
 have he:=Qu dg.out dL.out (by rw[ak (by rw[Hc.out];simp)]) (by rw[ak (by rw[Hd.out];simp)]) qP.out Im.out;refine⟨⟨x1,x2,0,0,0,x5,size,aE,same,xs,lo,hi,aT,below,left,right⟩,ao,m,cp,rf,he,?_,Io,rfl,?_,Iq,dF Jf.g BJ (bj _)⟩
 ·exact⟨⟨l1,u1⟩,⟨l2,u2⟩,by simp only;omega,by simp only;omega,by simp only;omega,by simp only;omega,y1,y2,y3,y4,y5,y6,y7,y8,qR⟩
 ·exact nC (px Ip BJ (by simp at zl ⊢;omega)) (by simp at zz ⊢;omega)
theorem ail(b:Nat)(s:ByteArray)(r:M.RS)(w:World)(h:Rd w b s r)(hp:r.bG<=s.size)(hs:s.size<=4096) :
  Calls prog 163 #[.pointer (some ⟨b,0,none⟩)] w fun e w'=>∃o ao m c r',Hid (M.op s r=(o,r'))/\mb o/\r'.bG<=s.size/\e=.returned (.agg (aO o (.slice ao m c)))/\gF w' w.heap.size (.slice ao m c) o.bM/\Rd w' b s r'/\w.grownBy w' (some b):=by
 cases hc:M.cm (M.ji s 1 10 r).1 with
 | true=>exact aii b s r w h hp hs hc (WA hc)
 | false =>
  cases hd:M.dr (M.ji s 1 10 r).1 with
  | true=>exact aij b s r w h hp hs hc hd
  | false=>exact aik b s r w h hp hs hc hd
theorem aim(b:Nat)(s:ByteArray)(r:M.RS)(w:World)(h:Rd w b s r)(hp:r.bG<=s.size)(hs:s.size<=4096) :
  Calls prog 163 #[.pointer (some ⟨b,0,none⟩)] w fun e w'=>∃o ao m c r',Hid (M.op s r=(o,r'))/\mb o/\r'.bG<=s.size /\
   e=.returned (.agg #[.int .i64 o.af,.int .i64 o.a,.int .i64 o.b,.int .i64 o.aP,.int .i64 o.bC,.int .i64 o.to,.int .i64 o.size,.int .i64 o.aE,.bool o.same,.slice ao m c,.int .i64 o.lo,.int .i64 o.hi,.int .i64 o.aT,.int .i64 o.below,.int .i64 o.left,.int .i64 o.right]) /\
   gF w' w.heap.size (.slice ao m c) o.bM/\Rd w' b s r'/\w.grownBy w' (some b):=ail b s r w h hp hs
theorem Tryz.L4:(prog.info? 142).map (fun i=>(i.zero,i.size,i.bytes))=some (some (.agg (aR 0 0 0 0 0 0 0 0 false (.slice none 0 0) 0 0 0 0 0 0)),16,144):=by kernel_rfl
def jl(w:World)(base:Nat)(v:Value)(os:List M.Op):Prop :=
 ∃ps:List (M.Op×Value),ps.map (·.1)=os/\w.ownsRow base 142 16 v os.length (ps.flatMap fun p=>(aO p.1 p.2).toList)/\∀p∈ps,gF w base p.2 p.1.bM
theorem jl.nil(w:World)(base:Nat):jl w base (.slice none 0 0) []:=⟨[],rfl,ki _ _ _ _,by simp⟩
theorem jl.kept{w w':World}{base b:Nat}{v:Value}{os:List M.Op}(h:jl w base v os)(hg:w.grownBy w' (some b))(hb:b<base):jl w' base v os:=by
 obtain⟨ps,h1,h2,h3⟩:=h;exact⟨ps,h1,px h2 hg hb,fun p hp=>px (h3 p hp) hg hb⟩
theorem jl.Z{w w':World}{base:Nat}{v:Value}{os:List M.Op}(h:jl w base v os)(hg:w.grownBy w' none):jl w' base v os:=by
 obtain⟨ps,h1,h2,h3⟩:=h;exact⟨ps,h1,eY h2 hg,fun p hp=>eY (h3 p hp) hg⟩
theorem jl.mono{w:World}{base base':Nat}{v:Value}{os:List M.Op}(h:jl w base v os)(hb:base'<=base):jl w base' v os:=by
 obtain⟨ps,h1,h2,h3⟩:=h;exact⟨ps,h1,nC h2 hb,fun p hp=>nC (h3 p hp) hb⟩
theorem jl.py{w w2:World}{B:Nat}{v v':Value}{ps:List (M.Op×Value)}{os:List M.Op}{o:M.Op}{sv:Value}(h1:ps.map (·.1)=os)(h2:w.ownsRow B 142 16 v os.length (ps.flatMap fun p=>(aO p.1 p.2).toList))(h3:∀p∈ps,gF w B p.2 p.1.bM)
  (hd:gF w B sv o.bM) (aM:w.grownBy w2 v.ownBlock)
  (cB:w2.ownsRow B 142 16 v' (os.length+1) ((ps.flatMap fun p=>(aO p.1 p.2).toList)++(aO o sv).toList)):jl w2 B v' (os++[o]):=by
 refine⟨ps++[(o,sv)],by simp[h1],by simpa using cB,?_⟩;intro p hp;rcases List.mem_append.1 hp with hp|hp
 ·exact oc (h3 p hp) h2 (by decide) aM
 ·simp at hp
  subst hp;exact oc hd h2 (by decide) aM
theorem ain(b:Nat)(s:ByteArray)(r:M.RS)(w:World)(h:Rd w b s r)(hp:r.bG<=s.size)(hs:s.size<=4096) :
  Calls prog 137 #[.pointer (some ⟨b,0,none⟩)] w fun e w'=>∃v os r',Hid (M.ag s r=(os,r'))/\(∀o∈os,mb o)/\os.length<=255/\r'.bG<=s.size/\e=.returned v/\jl w' w.heap.size v os/\Rd w' b s r'/\w.grownBy w' (some b):=by
 obtain⟨i0,hi,cP,cQ,cZ⟩:=info_parts Tryz.L4;have dh:=h.lt;go_enter func137,ntmps137;go_wp2_with fail;refine(jO b s r _ h hp (by omega)).mono ?_;rintro e w1 ⟨x1,r1,dg,l1,u1,eW,rfl,gK,aH⟩;obtain⟨n,rfl⟩:=fT l1;have Ae:=ae cP;clear cP;go_wp2;go_loopw[4,5] (fun v i wr=>∃k:Nat,k<=n/\i=.int .i64 k/\Rd wr b s (M.eZ (M.op s) k r1).2/\(M.eZ (M.op s) k r1).2.bG<=s.size/\jl wr w.heap.size v (M.eZ (M.op s) k r1).1/\(∀t∈(M.eZ (M.op s) k r1).1,mb t)/\w.grownBy wr (some b)) (fun _ i _=>n-(intOf i).toNat)
 case atStart=>exact⟨0,bK _,rfl,gK,eW,jl.nil _ _,by simp[M.eZ],aH⟩
 case round =>
  obtain⟨k,hk,rfl,jw,oQ,lL,lM,aF⟩:=hrel;have Ih:=Wx (M.op s) k r1;obtain⟨c0,c1,c2,f1,f2⟩:=jw.cells;clear c0 c1 f1 f2;by_cases aJ:k<n
  ·cases fB:(M.eZ (M.op s) k r1).2.gg with
   | true =>
    rw[fB] at c2;have Aa:=Ww (M.op s) k n r1 hk fB;have He:=ae Aa;have Hb:=ae fB;clear Aa fB;go_wp2;go_ret;exact⟨_,_,_,by simp only[Hid,M.ag,dg.out,eC,He.out],lM,by omega,oQ,rfl,lL,jw,aF⟩
   | false =>
    rw[fB] at c2;have xp:M.eZ (M.op s) (k+1) r1=((M.eZ (M.op s) k r1).1++[(M.op s (M.eZ (M.op s) k r1).2).1],(M.op s (M.eZ (M.op s) k r1).2).2):=by rw[M.eZ,ak (by simp[fB])]
    have Hs:=ae xp;clear xp fB;generalize (M.eZ (M.op s) k r1).1=ts at *;generalize (M.eZ (M.op s) k r1).2=rk at *;go_wp2_with fail;refine(aim b s rk _ jw oQ hs).mono ?_;rintro e w3 ⟨t,ao,m,c,r3,im,Qq,qO,rfl,lh,kZ,aU⟩;have jC:w.grownBy w3 (some b):=aC aF aU;obtain⟨ps,q1,q2,q3⟩:=lL.kept aU dh;have Ii:gF w3 w.heap.size (.slice ao m c) t.bM:=nC lh aF.size;have DG:=jC.size;clear lL lh aU jw c2 aF;go_wp2_with (at_builtin;refine nD _ rfl _ _ 137 rfl w.heap.size 142 i0 (.agg (aR 0 0 0 0 0 0 0 0 false (.slice none 0 0) 0 0 0 0 0 0)) 16 144 underlying137 hi Ae.out cQ cZ rfl (by decide) _ _ _ rfl ((q2.alloc _).alloc _) ⟨w3.heap.size+1,0,none⟩ 1 1 (aO t (.slice ao m c)).toList rfl rfl ?c1 ?c2 ?c3 ?c4 ?c5 ?_)
    case c1=>exact Wr w3 _ 142 _
    case c2=>intro u hu;simp[aO] at hu;rcases hu with rfl|rfl|rfl|rfl|rfl|rfl|rfl|rfl|rfl|rfl|rfl|rfl|rfl|rfl|rfl|rfl<;>rfl
    case c3=>unfold maxLen;omega
    case c4=>omega
    case c5=>simp;omega
    intro v' w4 dC cR _;have bq:w3.grownBy w4 u4.ownBlock:=by
     have:=aC (nZ w3 _ _ _) cR;exact this
    have Ab:=jl.py q1 q2 q3 Ii bq dC;have dR:=mJ q2;have sS:w.grownBy w4 (some b):=l8 jC bq dR;have jk:Rd w4 b s r3:=aj.kept kZ bq (by intro e;have:=dR b e.symm;omega);clear dC cR bq q2 q3 Ii jC kZ dR;go_wp2;go_roundw
    case rel =>
     have e1:=Hs.out;rw[im.out] at e1;refine⟨k+1,by omega,by go_num,?_,?_,?_,?_,sS⟩
     ·rw[e1];exact jk
     ·rw[e1];exact qO
     ·rw[e1];exact Ab
     ·rw[e1];intro t' ij
      rcases List.mem_append.1 ij with h' | h'
      ·exact lM t' h'
      ·simp at h';subst h';exact Qq
    case measure=>simp[intOf];omega
  ·obtain rfl:k=n:=by omega
   clear c2;go_wp2;go_ret;exact⟨_,_,_,by simp only[Hid,M.ag,dg.out,eC],lM,by omega,oQ,rfl,lL,jw,aF⟩
theorem WB(s:ByteArray):(s.extract 0 4).toList=s.data.toList.take 4:=by
 rw[Lib.toList_data,Lib.extract_data];simp
theorem WC{s:ByteArray}(h:s.size<4\/(!(s.extract 0 4).toList==[116,102,108,49])=true):M.sM s=⟨0,true⟩:=by
 rw[WB] at h;unfold M.sM M.DD;rw[ay];rcases h with h|h
 ·simp[h]
 ·simp at h;simp[h]
theorem aio{s:ByteArray}(h4:4<=s.size)(h:(!(s.extract 0 4).toList==[116,102,108,49])=false):M.sM s=⟨4,false⟩:=by
 rw[WB] at h;unfold M.sM M.DD;rw[ak];simp at h;simp[h];omega
theorem aip(b:Nat)(s:ByteArray)(w:World)(h:Rd w b s ⟨0,false⟩)(hm:s.size<=4096) :
  Calls prog 135 #[.pointer (some ⟨b,0,none⟩)] w fun e w'=>e=.returned (.tuple #[])/\Rd w' b s (M.sM s)/\(M.sM s).bG<=s.size/\w.grownBy w' (some b):=by
 obtain⟨c0,c1,c2,f1,f2⟩:=h.cells;by_cases hs:s.size<4
 ·go_enter func135,ntmps135
  go_wp2;refine bodyPost_ret (v:=.tuple #[]) (by simp[results,Tryz.results135,go_sem]) rfl ?_;rw[WC (.inl hs)];exact⟨rfl,aj.set h 2 _,bK _,bD _ _ _ _⟩
 ·have qS:4<=s.size:=by omega
  cases hh:(!(s.extract 0 4).toList==[116,102,108,49]) with
  | true =>
   have e:=WC (.inr hh);have He:=ae e;clear e;go_enter func135,ntmps135;go_wp2;refine bodyPost_ret (v:=.tuple #[]) (by simp[results,Tryz.results135,go_sem]) rfl ?_;rw[He.out];exact⟨rfl,aj.set h 2 _,bK _,bD _ _ _ _⟩
  | false =>
   have e:=aio qS hh;have He:=ae e;clear e;go_enter func135,ntmps135;go_wp2;go_end0;rw[He.out];exact⟨rfl,aj.set h 1 _,qS,bD _ _ _ _⟩
theorem gP{w:World}{base:Nat}{e:TypeId}{size n:Nat}{v:Value}{xs:List Value}(h:w.ownsRow base e size v n xs):∃ao c,v=.slice ao n c:=by
 rcases h.2 with⟨rfl,rfl⟩|⟨g,cap,dY,rfl,_⟩
 ·exact⟨_,_,rfl⟩
 ·exact⟨_,_,rfl⟩
def cN(w:World)(m:Nat)(md:M.Md):Prop :=
 ∃a1 c1 a2 c2 a3 c3,aj w m 139 #[.slice a1 md.au.length c1,.slice a2 md.ag.length c2,.slice a3 md.aK.length c3] /\
  ir w (m+1) (.slice a1 md.au.length c1) md.au/\jl w (m+1) (.slice a2 md.ag.length c2) md.ag/\aZ w (m+1) (.slice a3 md.aK.length c3) md.aK
structure lO(md:M.Md):Prop where
 ts:∀t∈md.au,dZ t
 os:∀o∈md.ag,mb o
 nt:md.au.length<=255
 no:md.ag.length<=255
 nu:md.aK.length<=255
theorem aiq{s:ByteArray}{r r':M.RS}{l:List Int}(hp:r.bG<=s.size)(h:M.aK s r=(l,r')):l.length<=255:=by
 have h1:=(DE s r hp).2;have e:l=(M.aK s r).1:=by rw[h]
 rw[e];simp only[M.aK]
 split
 ·rw[BG];omega
 ·simp
theorem WD{s:ByteArray}(h:s.size<=4096)(hb:(M.gD s).2.gg=true\/(M.gD s).2.bG≠s.size):M.nY s=2:=by
 unfold M.nY;rw[ak (by omega),ay];rcases hb with hb|hb<;>simp[hb]
theorem air{s:ByteArray}(h:s.size<=4096)(hb:(M.gD s).2.gg=false)(hp:(M.gD s).2.bG=s.size):M.nY s=0:=by
 unfold M.nY;rw[ak (by omega),ak];simp[hb,hp]
theorem ais(s:ByteArray)(w:World)(hs:4096<s.size)(hm:s.size<=9223372036854775807) :
  Calls prog 99 #[.string s] w fun e w'=>e=.returned (.tuple #[.pointer none,.int .i64 1])/\w.grownBy w' none:=by
 go_enter func99,ntmps99;go_wp2
 go_ret2
 exact⟨rfl,fZ _ _⟩
theorem ait(b:Nat)(s:ByteArray)(r:M.RS)(w:World)(h:Rd w b s r)(hp:r.bG<=s.size)(hs:s.size<=4096) :
  Calls prog 136 #[.pointer (some ⟨b,0,none⟩)] w fun e w'=>∃ao c ts r',Hid (M.au s r=(ts,r'))/\(∀t∈ts,dZ t)/\ts.length<=255/\r'.bG<=s.size/\e=.returned (.slice ao ts.length c)/\ir w' w.heap.size (.slice ao ts.length c) ts/\Rd w' b s r'/\w.grownBy w' (some b) :=
 (ahY b s r w h hp hs).mono fun e w' ⟨v,ts,r',h1,h2,h3,h4,h5,h6,h7,h8⟩=>by
  have Qv:=h6;obtain⟨ps,q1,q2,q3⟩:=h6;obtain⟨ao,c,rfl⟩:=gP q2;exact⟨ao,c,ts,r',h1,h2,h3,h4,h5,Qv,h7,h8⟩
theorem aiu(b:Nat)(s:ByteArray)(r:M.RS)(w:World)(h:Rd w b s r)(hp:r.bG<=s.size)(hs:s.size<=4096) :
  Calls prog 137 #[.pointer (some ⟨b,0,none⟩)] w fun e w'=>∃ao c os r',Hid (M.ag s r=(os,r'))/\(∀o∈os,mb o)/\os.length<=255/\r'.bG<=s.size/\e=.returned (.slice ao os.length c)/\jl w' w.heap.size (.slice ao os.length c) os/\Rd w' b s r'/\w.grownBy w' (some b) :=
 (ain b s r w h hp hs).mono fun e w' ⟨v,ts,r',h1,h2,h3,h4,h5,h6,h7,h8⟩=>by
  have Qv:=h6;obtain⟨ps,q1,q2,q3⟩:=h6;obtain⟨ao,c,rfl⟩:=gP q2;exact⟨ao,c,ts,r',h1,h2,h3,h4,h5,Qv,h7,h8⟩
theorem aiv(b:Nat)(s:ByteArray)(r:M.RS)(w:World)(h:Rd w b s r)(hp:r.bG<=s.size)(hs:s.size<=4096) :
  Calls prog 138 #[.pointer (some ⟨b,0,none⟩)] w fun e w'=>∃ao c l r',Hid (M.aK s r=(l,r'))/\r'.bG<=s.size/\e=.returned (.slice ao l.length c)/\aZ w' w.heap.size (.slice ao l.length c) l/\Rd w' b s r'/\w.grownBy w' (some b) :=
 (ahL b s r w h hp hs).mono fun e w' ⟨v,l,r',h1,h2,h3,h4,h5,h6⟩=>by
  obtain⟨ao,c,rfl⟩:=gP h4;exact⟨ao,c,l,r',h1,h2,h3,h4,h5,h6⟩
structure DM(w0 w1:World)(s:ByteArray)(r:M.RS)(cs:Array Value):Prop where
 R:Rd w1 w0.heap.size s r
 B:aj w1 (w0.heap.size+1) 139 cs
 g:w0.grownBy w1 none
theorem DM.call{w0 w1 w2:World}{s:ByteArray}{r r':M.RS}{cs:Array Value}(h:DM w0 w1 s r cs)(hR:Rd w2 w0.heap.size s r')(hg:w1.grownBy w2 (some w0.heap.size)):DM w0 w2 s r' cs :=
 ⟨hR,h.B.kept hg (by simp),dF h.g hg (bj _)⟩
theorem DM.put{w0 w1:World}{s:ByteArray}{r:M.RS}{cs:Array Value}(h:DM w0 w1 s r cs)(i:Nat)(v:Value):DM w0 (w1.setCell ⟨w0.heap.size+1,i,none⟩ v) s r (cs.setIfInBounds i v) :=
 ⟨aj.yz h.R (by simp) _,h.B.set i v,dF h.g (bD _ _ _ _) (by omega)⟩
theorem aiw(s:ByteArray)(w:World)(hs:s.size<=4096) :
  Calls prog 99 #[.string s] w fun e w'=>w.grownBy w' none/\((M.nY s=2/\e=.returned (.tuple #[.pointer none,.int .i64 2])) \/
   (M.nY s=0/\∃m,w.heap.size<=m/\e=.returned (.tuple #[.pointer (some ⟨m,0,none⟩),.int .i64 0])/\cN w' m (M.gD s).1/\lO (M.gD s).1)):=by
 have I0:DM w ((w.alloc (.cells #[.string s,.int .i64 0,.bool false] 187)).alloc (.cells #[.slice none 0 0,.slice none 0 0,.slice none 0 0] 139)) s ⟨0,false⟩ #[.slice none 0 0,.slice none 0 0,.slice none 0 0] :=
  ⟨aj.alloc (aj.bA w 187 _) _,aj.yA w _ _ _,nZ w _ _ _⟩
 go_enter func99,ntmps99;go_wp2_with fail;refine(aip w.heap.size s _ I0.R hs).mono ?_;rintro e w1 ⟨rfl,gK,eW,aH⟩;have I1:=I0.call gK aH;clear gK aH I0;go_wp2_with fail;refine(ait w.heap.size s _ _ I1.R eW hs).mono ?_;rintro e w2 ⟨a2,c2,ts,r2,dL,sU,aJ,gj,rfl,WE,gN,aM⟩;have I2:=I1.call gN aM;have WG:=WE.mono (base':=w.heap.size+2) (by have:=I1.B.lt;omega);clear gN aM WE I1;have d2:w2.cell? ⟨w.heap.size+1,0,none⟩=some (.slice none 0 0):=I2.B.cell 0;have b2:=I2.B.free 0;go_wp2_with fail;have J2:=I2.put 0 (.slice a2 ts.length c2);have It:=WG.kept (bD w2 (w.heap.size+1) 0 (.slice a2 ts.length c2)) (by omega);refine(aiu w.heap.size s _ _ J2.R gj hs).mono ?_;rintro e w4 ⟨a4,c4,os,r4,gY,hwo,me,mG,rfl,WH,jk,bm⟩;have I4:=J2.call jk bm;have Ab:=It.kept bm (by omega);have WI:=WH.mono (base':=w.heap.size+2) (by have:=J2.B.lt;omega);clear jk bm It WG WH J2 I2 d2 b2;have d4:w4.cell? ⟨w.heap.size+1,1,none⟩=some (.slice none 0 0):=I4.B.cell 1;have b4:=I4.B.free 1;go_wp2_with fail;have J4:=I4.put 1 (.slice a4 os.length c4);have BK:=Ab.kept (bD w4 (w.heap.size+1) 1 (.slice a4 os.length c4)) (by omega);have Iu:=WI.kept (bD w4 (w.heap.size+1) 1 (.slice a4 os.length c4)) (by omega);refine(aiv w.heap.size s _ _ J4.R mG hs).mono ?_;rintro e w6 ⟨a6,c6,us,r6,tZ,yF,rfl,WJ,lN,fE⟩;have I6:=J4.call lN fE;have DJ:=BK.kept fE (by omega);have WK:=Iu.kept fE (by omega);have WL:=WJ.mono (base':=w.heap.size+2) (by have:=J4.B.lt;omega);clear lN fE BK Iu Ab WI WJ J4 I4 d4 b4;have d6:w6.cell? ⟨w.heap.size+1,2,none⟩=some (.slice none 0 0):=I6.B.cell 2;have b6:=I6.B.free 2;have J6:=I6.put 2 (.slice a6 us.length c6);have WM:=DJ.kept (bD w6 (w.heap.size+1) 2 (.slice a6 us.length c6)) (by omega);have hO7:=WK.kept (bD w6 (w.heap.size+1) 2 (.slice a6 us.length c6)) (by omega)
 have hU7:=WL.kept (bD w6 (w.heap.size+1) 2 (.slice a6 us.length c6)) (by omega);have hwu:=aiq mG tZ.out;clear DJ WK WL;obtain⟨c0,c1,Af,f1,f2⟩:=I6.R.cells;have Ag:M.gD s=(⟨ts,os,us⟩,r6):=by simp only[M.gD,dL.out,gY.out,tZ.out]
 have yG:=ae Ag;clear Ag c0 f1 f2 dL gY tZ;have gz:=J6.g
 cases fB:r6.gg with
 | true =>
  have BL:=WD hs (by rw[yG.out];exact .inl fB);have Iv:=ae BL;have Hb:=ae fB;rw[fB] at Af;clear BL fB;go_wp2
  go_ret2
  exact⟨gz,.inl ⟨Iv.out,rfl⟩⟩
 | false =>
  by_cases yH:r6.bG=s.size
  ·have BL:=air hs (by rw[yG.out];exact fB) (by rw[yG.out];exact yH)
   have Iv:=ae BL;rw[fB] at Af;rw[yH] at c1;clear BL fB yH;go_wp2
   go_ret2
   refine⟨gz,.inr ⟨Iv.out,w.heap.size+1,by omega,rfl,?_,?_⟩⟩
   ·rw[yG.out];exact⟨a2,c2,a4,c4,a6,c6,J6.B,WM,hO7,hU7⟩
   ·rw[yG.out];exact⟨sU,hwo,aJ,me,hwu⟩
  ·have BL:=WD hs (by rw[yG.out];exact .inr yH)
   have Iv:=ae BL;have hn:((r6.bG:Int)!=(s.size:Int))=true:=by simp;omega
   rw[fB] at Af;clear BL fB yH;go_wp2
   go_ret2
   exact⟨gz,.inl ⟨Iv.out,rfl⟩⟩
theorem lP{α β:Type}(f:α->List β)(k:Nat)(hf:∀a,(f a).length=k):∀(ps:List α) (i j:Nat) (p:α),ps[i]?=some p->j<k->(ps.flatMap f)[i*k+j]?=(f p)[j]?
 | [],i,j,p,h,_=>by simp at h
 | q::ps,0,j,p,h,hj=>by
  simp at h;subst h;rw[List.flatMap_cons,Nat.zero_mul,Nat.zero_add,qT (by rw[hf];exact hj)]
 | q::ps,i+1,j,p,h,hj=>by
  have e:(i+1)*k+j=(f q).length+(i*k+j):=by rw[hf,Nat.add_mul];omega
  rw[List.flatMap_cons,e,og (by omega),Nat.add_sub_cancel_left];exact lP f k hf ps i j p (by simpa using h) hj
theorem nE{w:World}{base:Nat}{e:TypeId}{size n:Nat}{a:Option Addr}{m c:Nat}{xs:List Value}(h:w.ownsRow base e size (.slice a m c) n xs)(hn:0<n):∃g,a=some ⟨g,0,none⟩/\base<=g/\m=n/\∀j,j<n*size->w.cell? ⟨g,j,none⟩=xs[j]?:=by
 rcases h.2 with⟨_,h0⟩|⟨g,cap,dY,hv,hb,hh,hr⟩
 ·omega
 ·injection hv with h1 h2 h3
  subst h1 h2 h3;exact⟨g,rfl,hb,rfl,fun j hj=>World.ownsRow.cellAt h j hj⟩
theorem ir.get{w:World}{base:Nat}{a:Option Addr}{n c:Nat}{ts:List M.Tn}(h:ir w base (.slice a n c) ts)(i:Nat)(t:M.Tn)(hi:ts[i]?=some t) :
  ∃g ao m cp,a=some ⟨g,0,none⟩/\n=ts.length/\base<=g/\aZ w base (.slice ao m cp) t.data /\
   w.cell? ⟨g,i*6,none⟩=some (.int .i64 t.af)/\w.cell? ⟨g,i*6+1,none⟩=some (.int .i64 t.h)/\w.cell? ⟨g,i*6+2,none⟩=some (.int .i64 t.w) /\
   w.cell? ⟨g,i*6+3,none⟩=some (.int .i64 t.c)/\w.cell? ⟨g,i*6+4,none⟩=some (.int .i64 t.zero)/\w.cell? ⟨g,i*6+5,none⟩=some (.slice ao m cp):=by
 obtain⟨ps,h1,h2,h3⟩:=h;have aJ:i<ts.length:=by
  rcases cE i ts.length with h' | h'
  ·exact h'
  ·simp[db h'] at hi
 obtain⟨g,ha,hb,hn,hc⟩:=nE h2 (by omega);subst h1;rw[dV] at hi;obtain⟨p,hp,rfl⟩:=Option.map_eq_some_iff.1 hi;obtain⟨ao,m,cp,qj⟩:=(h3 p (bU hp)).bT;have hI:=h3 p (bU hp);rw[qj] at hI;have cF:∀j,j<6->w.cell? ⟨g,i*6+j,none⟩=(bg p.1 p.2).toList[j]?:=by
  intro j hj;rw[hc _ (by simp at aJ ⊢;omega)];exact lP (fun p:M.Tn×Value=>(bg p.1 p.2).toList) 6 (fun a=>rfl) ps i j p hp hj
 refine⟨g,ao,m,cp,ha,hn,hb,hI,cF 0 (by omega),cF 1 (by omega),cF 2 (by omega),cF 3 (by omega),cF 4 (by omega),?_⟩;rw[cF 5 (by omega),qj]
 rfl
theorem cN.Z{w w':World}{m:Nat}{md:M.Md}(h:cN w m md)(hg:w.grownBy w' none):cN w' m md:=by
 obtain⟨a1,c1,a2,c2,a3,c3,h1,h2,h3,h4⟩:=h;exact⟨a1,c1,a2,c2,a3,c3,h1.kept hg (by simp),h2.Z hg,h3.Z hg,h4.Z hg⟩
theorem Qw{md:M.Md}{n:Nat}{t:M.Tn}(h:md.au[n]?=some t):(md.au.map (·.af)).getD n 0=t.af:=by
 rw[oa,dV,h];rfl
theorem Qx{md:M.Md}{n:Int}(h:n<0\/(md.au.length:Int)<=n):M.lZ md n=false:=by
 unfold M.lZ;rcases h with h|h
 ·rw[show decide (0<=n)=false from by simp;omega];rfl
 ·rw[show decide (n<(md.au.length:Int))=false from by simp;omega];simp
theorem L5{md:M.Md}{n q:Int}(h:n<0\/(md.au.length:Int)<=n):M.jM md n q=false:=by
 unfold M.jM;rcases h with h|h
 ·rw[show decide (0<=n)=false from by simp;omega];rfl
 ·rw[show decide (n<(md.au.length:Int))=false from by simp;omega];simp
theorem L6(m:Nat)(md:M.Md)(n:Int)(w:World)(h:cN w m md)(_hw:md.au.length<=255) :
  Calls prog 167 #[.pointer (some ⟨m,0,none⟩),.int .i64 n] w fun e w'=>e=.returned (.bool (M.lZ md n))/\w'=w:=by
 obtain⟨a1,c1,a2,c2,a3,c3,hB,hT,hO,hU⟩:=h;have q0:w.cell? ⟨m,0,none⟩=some (.slice a1 md.au.length c1):=hB.cell 0;clear hB hO hU;by_cases h0:0<=n
 ·by_cases h1:n<md.au.length
  ·obtain⟨k,rfl⟩:=fT h0
   have hk:k<md.au.length:=by omega
   obtain⟨t,ht⟩:∃t,md.au[k]?=some t:=⟨_,aS hk⟩;obtain⟨g,ao,m',cp,rfl,-,-,-,d0,-⟩:=hT.get k t ht;have e:M.lZ md k=(t.af !=2):=by
    unfold M.lZ;rw[eC,Qw ht];simp[hk]
   have He:=ae e;clear e hT ht;go_enter func167,ntmps167;go_wp2;go_ret;exact⟨bB He.out.symm,rfl⟩
  ·have He:=ae (Qx (n:=n) (.inr (by omega)):M.lZ md n=false)
   clear hT;go_enter func167,ntmps167;go_wp2;go_ret;exact⟨bB He.out.symm,rfl⟩
 ·have He:=ae (Qx (n:=n) (.inl (by omega)):M.lZ md n=false)
  clear hT;go_enter func167,ntmps167;go_wp2;go_ret;exact⟨bB He.out.symm,rfl⟩
theorem Iw(m:Nat)(md:M.Md)(n q:Int)(w:World)(h:cN w m md)(_hw:md.au.length<=255) :
  Calls prog 186 #[.pointer (some ⟨m,0,none⟩),.int .i64 n,.int .i64 q] w fun e w'=>e=.returned (.bool (M.jM md n q))/\w'=w:=by
 obtain⟨a1,c1,a2,c2,a3,c3,hB,hT,hO,hU⟩:=h;have q0:w.cell? ⟨m,0,none⟩=some (.slice a1 md.au.length c1):=hB.cell 0;clear hB hO hU;by_cases h0:0<=n
 ·by_cases h1:n<md.au.length
  ·obtain⟨k,rfl⟩:=fT h0
   have hk:k<md.au.length:=by omega
   obtain⟨t,ht⟩:∃t,md.au[k]?=some t:=⟨_,aS hk⟩;obtain⟨g,ao,m',cp,rfl,-,-,-,d0,-⟩:=hT.get k t ht;have e:M.jM md k q=(t.af==q):=by
    unfold M.jM;rw[eC,Qw ht];simp[hk]
   have He:=ae e;clear e hT ht;go_enter func186,ntmps186;go_wp2;go_ret;exact⟨bB He.out.symm,rfl⟩
  ·have He:=ae (L5 (n:=n) (q:=q) (.inr (by omega)):M.jM md n q=false)
   clear hT;go_enter func186,ntmps186;go_wp2;go_ret;exact⟨bB He.out.symm,rfl⟩
 ·have He:=ae (L5 (n:=n) (q:=q) (.inl (by omega)):M.jM md n q=false)
  clear hT;go_enter func186,ntmps186;go_wp2;go_ret;exact⟨bB He.out.symm,rfl⟩
theorem Tryz.iI:(prog.info? 158).map (·.size)=some 6:=by kernel_rfl
theorem Ix(k h w c z:Int)(ao:Option Addr)(m cp:Nat):(t6 k h w c z (.slice ao m cp)).all (·.oneCell')=true:=by
 simp[Value.oneCell']
theorem WN{md:M.Md}{n:Int}(h:n<0\/(md.au.length:Int)<=n):M.aq md n=M.vx:=by
 unfold M.aq;rw[ay h]
theorem L7{md:M.Md}{k:Nat}{t:M.Tn}(h:md.au[k]?=some t):M.aq md k=t:=by
 have hk:k<md.au.length:=by
  rcases cE k md.au.length with h' | h'
  ·exact h'
  ·simp[db h'] at h
 unfold M.aq;rw[ak (by omega),eC,oa,h];rfl
theorem iW(m:Nat)(md:M.Md)(n:Int)(w:World)(h:cN w m md)(_hw:md.au.length<=255) :
  Calls prog 108 #[.pointer (some ⟨m,0,none⟩),.int .i64 n] w fun e w'=>∃t,Hid (M.aq md n=t)/\(∃ao p c,e=.returned (.agg #[.int .i64 t.af,.int .i64 t.h,.int .i64 t.w,.int .i64 t.c,.int .i64 t.zero,.slice ao p c]))/\w.grownBy w' none:=by
 obtain⟨a1,c1,a2,c2,a3,c3,hB,hT,hO,hU⟩:=h;have qk:=hB.lt;have q0:w.cell? ⟨m,0,none⟩=some (.slice a1 md.au.length c1):=hB.cell 0;clear hB hO hU;by_cases hc:n<0\/(md.au.length:Int)<=n
 ·have He:=ae (WN hc)
  clear hT;rcases hc with hc|hc
  ·go_enter func108,ntmps108
   go_wp2;refine bodyPost_ret (v:=.agg (t6 0 0 0 0 0 (.slice none 0 0))) ?hr rfl ?_
   case hr=>exact results_cell_row Tryz.results108 _ _ w.heap.size 158 _ (0,0) _ rfl (aj.bA w 158 _) underlying158 rfl Tryz.iI
   exact⟨M.vx,He,⟨none,0,0,rfl⟩,aQ _ _ _⟩
  ·by_cases vC:n<0
   ·omega
   ·go_enter func108,ntmps108
    go_wp2;refine bodyPost_ret (v:=.agg (t6 0 0 0 0 0 (.slice none 0 0))) ?hr rfl ?_
    case hr=>exact results_cell_row Tryz.results108 _ _ w.heap.size 158 _ (0,0) _ rfl (aj.bA w 158 _) underlying158 rfl Tryz.iI
    exact⟨M.vx,He,⟨none,0,0,rfl⟩,aQ _ _ _⟩
 ·obtain⟨k,rfl⟩:=fT (show 0<=n by omega)
  have hk:k<md.au.length:=by omega
  obtain⟨t,ht⟩:∃t,md.au[k]?=some t:=⟨_,aS hk⟩;obtain⟨g,ao,m',cp,rfl,-,-,-,d0,d1,d2,d3,d4,d5⟩:=hT.get k t ht;have He:=ae (L7 ht);have gQ:g<w.heap.size:=ql w _ d0;clear hT ht hc;go_enter func108,ntmps108;go_wp2;refine bodyPost_ret (v:=.agg (t6 t.af t.h t.w t.c t.zero (.slice ao m' cp))) ?hr rfl ?_
  case hr=>exact results_cell_row Tryz.results108 _ _ w.heap.size 158 _ (0,0) _ rfl (aj.bA w 158 _) underlying158 rfl Tryz.iI
  exact⟨t,He,⟨ao,m',cp,rfl⟩,aQ _ _ _⟩
def part(t:M.Tn):Int:=if t.af=0\/t.af=3 then M.cellsOf t else 0
theorem aiB(l:List M.Tn)(t:M.Tn):M.sumTo (l++[t])=M.sumTo l+part t:=by
 induction l with
 | nil=>simp[M.sumTo,part]
 | cons a l ih=>simp only[List.cons_append,M.sumTo,ih];omega
theorem L8{α:Type}{l:List α}{k:Nat}{t:α}(h:l[k]?=some t):l.take (k+1)=l.take k++[t]:=by
 have hk:k<l.length:=by
  rcases cE k l.length with h' | h'
  ·exact h'
  ·simp[db h'] at h
 rw[List.take_succ_eq_append_getElem hk];rw[aS hk] at h;injection h with h;rw[h]
structure BM(ts:List M.Tn)(k:Nat)(sum:Int):Prop where
 eq:M.sumTo (ts.take k)=sum
 lo:0<=sum
 hi:sum<=512*(k:Int)
 all:(ts.take k).all M.vu=true
theorem BM.step{ts:List M.Tn}{k:Nat}{sum:Int}{t:M.Tn}(h:BM ts k sum)(ht:ts[k]?=some t)(h1:1<=M.cellsOf t)(h2:M.cellsOf t<=512):BM ts (k+1) (sum+part t):=by
 have hp:0<=part t/\part t<=512:=by unfold part;split<;>omega
 have e:=L8 ht;have h3:=h.lo;have h4:=h.hi;refine⟨by rw[e,aiB,h.eq],by omega,by simp only[Int.natCast_add,Int.cast_ofNat_Int];omega,?_⟩;rw[e,List.all_append,h.all];simp[M.vu];omega
theorem WO{md:M.Md}{k:Nat}{t:M.Tn}(ht:md.au[k]?=some t)(h:M.cellsOf t<1\/512<M.cellsOf t):M.nj md=false:=by
 have h1:M.vu t=false:=by unfold M.vu;rcases h with h|h<;>simp[h]
 have h2:md.au.all M.vu=false:=by
  rw[List.all_eq_false];exact⟨t,bU ht,by simp[h1]⟩
 simp[M.nj,h2]
theorem aiC{md:M.Md}{sum:Int}(h:BM md.au md.au.length sum)(h1:md.au.length<=24)(h2:md.ag.length<=16)(h3:(md.aK.length:Int)≠0):M.nj md=decide (sum<=2048):=by
 have ha:=h.all;have he:=h.eq;rw[jm] at ha he;have h4:md.aK≠[]:=by intro e;rw[e] at h3;simp at h3
 unfold M.nj;rw[ha,he];have h5:md.aK.isEmpty=false:=by simp[h4]
 rw[h5,show decide (24<md.au.length)=false from by simp;omega,show decide (16<md.ag.length)=false from by simp;omega];simp
theorem Qy{md:M.Md}(h:24<md.au.length\/16<md.ag.length\/md.aK.length=0):M.nj md=false:=by
 have:(decide (24<md.au.length)||decide (16<md.ag.length)||md.aK.isEmpty)=true:=by
  rcases h with h|h|h
  ·simp[h]
  ·simp[h]
  ·have:md.aK=[]:=List.eq_nil_of_length_eq_zero h
   simp[this]
 simp only[M.nj,this]
 rfl
theorem aiD(m:Nat)(md:M.Md)(w:World)(h:cN w m md)(hw:lO md) :
  Calls prog 139 #[.pointer (some ⟨m,0,none⟩)] w fun e w'=>e=.returned (.bool (M.nj md))/\w.grownBy w' none:=by
 have iq:=hw.nt;have kl:=hw.no;have BN:=hw.nu;have hM:=h;obtain⟨a1,c1,a2,c2,a3,c3,hB,hT,hO,hU⟩:=h;have q0:w.cell? ⟨m,0,none⟩=some (.slice a1 md.au.length c1):=hB.cell 0;have q1:w.cell? ⟨m,1,none⟩=some (.slice a2 md.ag.length c2):=hB.cell 1;have q2:w.cell? ⟨m,2,none⟩=some (.slice a3 md.aK.length c3):=hB.cell 2;have qk:=hB.lt;clear hB hO hU;by_cases g1:24<md.au.length
 ·have He:=ae (Qy (.inl g1))
  clear hT;go_enter func139,ntmps139;go_wp2;go_ret;exact⟨bB He.out.symm,fZ _ _⟩
 ·by_cases g2:16<md.ag.length
  ·have He:=ae (Qy (.inr (.inl g2)))
   clear hT;go_enter func139,ntmps139;go_wp2;go_ret;exact⟨bB He.out.symm,fZ _ _⟩
  ·by_cases g3:md.aK.length=0
   ·have He:=ae (Qy (.inr (.inr g3)))
    clear hT;have DN:((md.aK.length:Int)==0)=true:=by simp[g3]
    clear g3;go_enter func139,ntmps139;go_wp2;go_ret;exact⟨bB He.out.symm,fZ _ _⟩
   ·have DN:((md.aK.length:Int)==0)=false:=by simp[g3]
    have WQ:(md.aK.length:Int)≠0:=by omega
    have G3n:=ae WQ;clear g3 WQ;have rJ:md.au.length<=24:=by omega
    have xq:md.ag.length<=16:=by omega
    clear g1 g2;go_enter func139,ntmps139;go_wp2;go_loopw[34,3] (fun i v wr=>∃(k:Nat) (sum:Int),k<=md.au.length/\i=.int .i64 k/\v=.int .i64 sum/\BM md.au k sum/\w.grownBy wr none) (fun i _ _=>md.au.length-(intOf i).toNat)
    case atStart=>exact⟨0,0,bK _,rfl,rfl,⟨by simp[M.sumTo],by omega,by simp,by simp⟩,fZ _ _⟩
    case round =>
     obtain⟨k,sum,hk,rfl,rfl,hL,aF⟩:=hrel;by_cases aJ:k<md.au.length
     ·obtain⟨t,ht⟩:∃t,md.au[k]?=some t:=⟨_,aS aJ⟩
      obtain⟨g,ao,m',cp,rfl,-,-,-,d0,d1,d2,d3,d4,d5⟩:=(hT.Z aF).get k t ht;have gQ:g<wr.heap.size:=ql wr _ d0;have wt:=hw.ts t (bU ht);obtain⟨m0,m1,n0,n1⟩:=xn wt.h0 wt.h1 wt.w0 wt.w1 wt.c0 wt.c1;have l0:=hL.lo;have l1:=hL.hi;have Ht:=ae ht;have HL:=ae hL;clear ht hL hT q0 q1 q2;go_wp2_with fail;refine(LX t.af t.h t.w t.c t.zero _ _ wt.h0 wt.h1 wt.w0 wt.w1 wt.c0 wt.c1).mono ?_;rintro e w3 ⟨rfl,aU⟩;have iA:aj w3 wr.heap.size 158 (t6 t.af t.h t.w t.c t.zero (.slice ao m' cp)):=(aj.bA wr 158 _).kept aU (by simp);have e0:w3.cell? ⟨wr.heap.size,0,none⟩=some (.int .i64 t.af):=iA.cell 0;have jC:w.grownBy w3 none:=aC aF (aC (aQ _ _ _) aU);clear iA aU aF d0 d1 d2 d3 d4 d5;have WR:t.h*t.w*t.c=M.cellsOf t:=rfl;have WS:part t=if t.af=0\/t.af=3 then M.cellsOf t else 0:=rfl;rw[WR] at n0 n1 ⊢;clear WR;have Qz:=ae WS;clear WS;generalize Mc:M.cellsOf t=c at *;have Me:=ae Mc;clear Mc;by_cases j1:c<1
      ·go_wp2
       go_ret;exact⟨bB (WO Ht.out (.inl (by rw[Me.out];exact j1))).symm,jC⟩
      ·by_cases j2:512<c
       ·go_wp2
        go_ret;exact⟨bB (WO Ht.out (.inr (by rw[Me.out];exact j2))).symm,jC⟩
       ·have WT:=BM.step HL.out Ht.out (by rw[Me.out];omega) (by rw[Me.out];omega)
        have QA:=ae WT;clear WT;by_cases k0:t.af=0
        ·have Fu:(t.af==0)=true:=by simp[k0]
         have Hk:=ae (show part t=c by rw[Qz.out,ay (.inl k0)]);clear k0;go_wp2;go_roundw
         case rel=>exact⟨k+1,sum+c,by omega,by go_num,rfl,by have:=QA.out;rw[Hk.out] at this;exact this,jC⟩
         case measure=>simp[intOf];omega
        ·have Fu:(t.af==0)=false:=by simp[k0]
         by_cases k3:t.af=3
         ·have Fv:(t.af==3)=true:=by simp[k3]
          have Hk:=ae (show part t=c by rw[Qz.out,ay (.inr k3)]);clear k0 k3;go_wp2;go_roundw
          case rel=>exact⟨k+1,sum+c,by omega,by go_num,rfl,by have:=QA.out;rw[Hk.out] at this;exact this,jC⟩
          case measure=>simp[intOf];omega
         ·have Fv:(t.af==3)=false:=by simp[k3]
          have Hk:=ae (show part t=0 by rw[Qz.out,ak (by omega)]);clear k0 k3;go_wp2;go_roundw
          case rel=>exact⟨k+1,sum,by omega,by go_num,rfl,by have:=QA.out;rw[Hk.out,Int.add_zero] at this;exact this,jC⟩
          case measure=>simp[intOf];omega
     ·obtain rfl:k=md.au.length:=by omega
      have Iy:=aiC hL rJ xq G3n.out;have Mf:=ae Iy;clear Iy hL hT;go_wp2;go_ret;exact⟨bB Mf.out.symm,aF⟩
end Go.Proofs.YtcnhfffgbamonaaGreat
