import Derived.Lib.Strings
import Derived.Test.YtcnhfffgbamonabGreatZ02
import Derived.Test.YtcnhfffgbamonabGreatZ03
import Derived.Test.YtcnhfffgbamonabGreatZ04
set_option maxRecDepth 100000
set_option maxHeartbeats 6400000
namespace Go.Proofs.YtcnhfffgbamonabGreat
open Go.Proofs.Tryz
open Go.RowKit
theorem Tryz.db:(prog.info? 93).map (·.size)=some 16:=by kernel_rfl
theorem nY(af a b we bi to size aE:Int)(same:Bool)(ao:Option Addr)(m c:Nat)(lo hi aS below left right:Int):(aR af a b we bi to size aE same (.slice ao m c) lo hi aS below left right).all (·.oneCell')=true:=by
 simp[Value.oneCell']
theorem vb(w:World)(g:Nat)(cs:Array Value):w.grownBy (w.setRow g cs) (some g):=
 ⟨rfl,rfl,rfl,by simp,fun k _ hk=>setRow_other w g k _ (fun e=>hk (by simp[e]))⟩
theorem zN{T:TypeId}{z:Array Value}{w0 w1:World}{b:Nat}{s:ByteArray}{r:M.RS}{cs:Array Value}(h:fU T z w0 w1 b s r cs)(vs:Array Value) :
  Rd (w1.setRow w0.heap.size vs) b s r/\w1.grownBy (w1.setRow w0.heap.size vs) (some w0.heap.size)/\aj (w1.setRow w0.heap.size vs) w0.heap.size T vs:=by
 have hb:=h.hb;exact⟨aj.kept h.R (vb _ _ _) (by simp;omega),vb _ _ _,setRow_heap _ _ _ _ _ _ h.G⟩
theorem PS(k:Int)(hk:0<=k/\k<=10)(b L:Nat)(s:ByteArray)(r:M.RS)(a bb we bi to:Int)(w:World)(h:Rd w b s r)(hB:aj w L 93 (aR k a bb we bi to 0 0 false (.slice none 0 0) 0 0 0 0 0 0))(ne:b≠L)(hp:r.bG<=s.size)(hs:s.size<=4096) :
  Calls prog 162 #[.pointer (some ⟨b,0,none⟩),.pointer (some ⟨L,0,none⟩)] w fun e w'=>∃size aE same ao m c xs lo hi aS below left right r',Hid (M.jZ s ⟨k,a,bb,we,bi,to,0,0,false,[],0,0,0,0,0,0⟩ r=(⟨k,a,bb,we,bi,to,size,aE,same,xs,lo,hi,aS,below,left,right⟩,r')) /\
   (0<=size/\size<=255)/\(0<=aE/\aE<=255)/\(-128<=lo/\lo<=127)/\(-128<=hi/\hi<=127)/\(0<=aS/\aS<=255)/\(0<=below/\below<=255)/\(0<=left/\left<=255)/\(0<=right/\right<=255)/\(∀c∈xs,qF c) /\
   r'.bG<=s.size/\e=.returned (.tuple #[])/\aj w' L 93 (aR k a bb we bi to size aE same (.slice ao m c) lo hi aS below left right)/\gy w' w.heap.size (.slice ao m c) xs/\Rd w' b s r'/\gM w w' b L:=by
 rcases(show k=0\/k=1\/k=2\/k=3\/k=4\/k=5\/k=6\/k=7\/k=8\/k=9\/k=10 from by omega) with rfl|rfl|rfl|rfl|rfl|rfl|rfl|rfl|rfl|rfl|rfl
 ·exact ag4 b L s r a bb we bi to w h hB ne hp hs
 ·exact ag9 b L s r a bb we bi to w h hB ne hp hs
 ·exact aha b L s r a bb we bi to w h hB ne hp hs
 ·exact ahb b L s r a bb we bi to w h hB ne hp hs
 ·exact ahc b L s r a bb we bi to w h hB ne hp hs
 ·exact ahd b L s r a bb we bi to w h hB ne hp hs
 ·exact ahe b L s r a bb we bi to w h hB ne hp hs
 ·exact ag5 b L s r a bb we bi to w h hB ne hp hs
 ·exact ag6 b L s r a bb we bi to w h hB ne hp hs
 ·exact ag7 b L s r a bb we bi to w h hB ne hp hs
 ·exact ag8 b L s r a bb we bi to w h hB ne hp hs
theorem fU.dg{z:Array Value}{w0 w1 w2:World}{b:Nat}{s:ByteArray}{r r':M.RS}{cs ym:Array Value}(h:fU 93 z w0 w1 b s r cs)(hR:Rd w2 b s r')(hB:aj w2 (w0.heap.size+1) 93 ym)(hg:gM w1 w2 b (w0.heap.size+1)):fU 93 z w0 w2 b s r' ym:=by
 have hb:=h.hb;refine⟨hR,hB,?_,gM.ag3 h.g hg (by omega),hb⟩;have hG:=h.G;have aK:=hG.lt;unfold aj at hG ⊢;rw[hg.block _ aK (by omega) (by omega)];exact hG
theorem PT{s:ByteArray}{r r1 r2 r3 r4 r5:M.RS}{k a we bi b2 to:Int}{o:M.Op×M.RS}(h1:M.iZ s 1 10 r=(k,r1))(h2:M.plain s r1=(a,r2))
  (h3:(if M.cm k=true then (((M.plain s r2).1,(M.plain s (M.plain s r2).2).1),(M.plain s (M.plain s r2).2).2) else ((0,0),r2))=(((we,bi),r3):(Int×Int)×M.RS))
  (h4:(if M.dr k=true then M.plain s r3 else (0,r3))=(b2,r4)) (h5:M.plain s r4=(to,r5)) (h6:M.jZ s ⟨k,a,b2,we,bi,to,0,0,false,[],0,0,0,0,0,0⟩ r5=o):M.op s r=o:=by
 simp only[M.op,h1,h2,h3,h4,h5,h6]
theorem VK{k:Int}(h:M.cm k=true):M.dr k=false:=by
 unfold M.cm at h;unfold M.dr;simp only[Bool.or_eq_true,beq_iff_eq] at h;rcases h with(rfl|rfl)|rfl<;>rfl
theorem ahf(b:Nat)(s:ByteArray)(r:M.RS)(w:World)(h:Rd w b s r)(hp:r.bG<=s.size)(hs:s.size<=4096)(hc:M.cm (M.iZ s 1 10 r).1=true)(hd:M.dr (M.iZ s 1 10 r).1=false) :
  Calls prog 126 #[.pointer (some ⟨b,0,none⟩)] w fun e w'=>∃o ao m c r',Hid (M.op s r=(o,r'))/\lW o/\r'.bG<=s.size/\e=.returned (.agg (aO o (.slice ao m c)))/\gy w' w.heap.size (.slice ao m c) o.bM/\Rd w' b s r'/\w.grownBy w' (some b):=by
 have I0:=fU.start (T:=93) (z:=(aR 0 0 0 0 0 0 0 0 false (.slice none 0 0) 0 0 0 0 0 0)) h;have Hc:=ae hc;have Hd:=ae hd;clear hc hd;go_enter func126,ntmps126;go_wp2_with fail;refine(EV b s r 1 10 _ I0.R hp (by omega) (by omega) (by omega) (by omega)).mono ?_;rintro e w1⟨x1,r1,df,l1,u1,eV,rfl,gI,aH⟩;have J1:fU 93 (aR 0 0 0 0 0 0 0 0 false (.slice none 0 0) 0 0 0 0 0 0) w w1 b s r1 (aR 0 0 0 0 0 0 0 0 false (.slice none 0 0) 0 0 0 0 0 0):=I0.call gI aH;clear aH gI I0;have a1:w1.cell? ⟨w.heap.size+1,0,none⟩=some (.int .i64 0):=J1.L.cell 0;have b1:=J1.L.free 0;have K1:fU 93 (aR 0 0 0 0 0 0 0 0 false (.slice none 0 0) 0 0 0 0 0 0) w (w1.setCell ⟨w.heap.size+1,0,none⟩ (.int .i64 x1)) b s r1 (aR x1 0 0 0 0 0 0 0 false (.slice none 0 0) 0 0 0 0 0 0):=J1.put 0 (.int .i64 x1);clear J1;rw[df.out] at Hc Hd;go_wp2_with fail;refine(jL b s r1 _ K1.R eV (by omega)).mono ?_;rintro e w2⟨x2,r2,dL,l2,u2,fY,rfl,gK,aM⟩;have J2:fU 93 (aR 0 0 0 0 0 0 0 0 false (.slice none 0 0) 0 0 0 0 0 0) w w2 b s r2 (aR x1 0 0 0 0 0 0 0 false (.slice none 0 0) 0 0 0 0 0 0):=K1.call gK aM;clear aM gK K1 a1 b1;have a2:w2.cell? ⟨w.heap.size+1,1,none⟩=some (.int .i64 0):=J2.L.cell 1;have b2:=J2.L.free 1;have K2:fU 93 (aR 0 0 0 0 0 0 0 0 false (.slice none 0 0) 0 0 0 0 0 0) w (w2.setCell ⟨w.heap.size+1,1,none⟩ (.int .i64 x2)) b s r2 (aR x1 x2 0 0 0 0 0 0 false (.slice none 0 0) 0 0 0 0 0 0):=J2.put 1 (.int .i64 x2);clear J2;go_wp2_with (refine dj rfl 93 _ rfl (w.heap.size+1) rfl 93 (aR x1 x2 0 0 0 0 0 0 false (.slice none 0 0) 0 0 0 0 0 0) (0,0) _ K2.L underlying93 rfl Tryz.db ?_);refine(rl _ _ _ _ _ _ _ _ _ _ _ _ _ _ _ _ true _ Hc.out).mono ?_;rintro e w3⟨rfl,aU⟩;have J3:=K2.gV aU;clear aU K2 a2 b2;go_wp2_with fail;refine(jL b s r2 _ J3.R fY (by omega)).mono ?_;rintro e w4⟨x4,r4,gU,l4,u4,mB,rfl,jb,bm⟩
 have J4:fU 93 (aR 0 0 0 0 0 0 0 0 false (.slice none 0 0) 0 0 0 0 0 0) w w4 b s r4 (aR x1 x2 0 0 0 0 0 0 false (.slice none 0 0) 0 0 0 0 0 0):=J3.call jb bm;clear bm jb J3;have a4:w4.cell? ⟨w.heap.size+1,3,none⟩=some (.int .i64 0):=J4.L.cell 3;have b4:=J4.L.free 3;have K4:fU 93 (aR 0 0 0 0 0 0 0 0 false (.slice none 0 0) 0 0 0 0 0 0) w (w4.setCell ⟨w.heap.size+1,3,none⟩ (.int .i64 x4)) b s r4 (aR x1 x2 0 x4 0 0 0 0 false (.slice none 0 0) 0 0 0 0 0 0):=J4.put 3 (.int .i64 x4);clear J4;go_wp2_with fail;refine(jL b s r4 _ K4.R mB (by omega)).mono ?_;rintro e w5⟨x5,r5,qD,l5,u5,pV,rfl,j5,cJ⟩;have J5:fU 93 (aR 0 0 0 0 0 0 0 0 false (.slice none 0 0) 0 0 0 0 0 0) w w5 b s r5 (aR x1 x2 0 x4 0 0 0 0 false (.slice none 0 0) 0 0 0 0 0 0):=K4.call j5 cJ;clear cJ j5 K4 a4 b4;have a5:w5.cell? ⟨w.heap.size+1,4,none⟩=some (.int .i64 0):=J5.L.cell 4;have b5:=J5.L.free 4;have K5:fU 93 (aR 0 0 0 0 0 0 0 0 false (.slice none 0 0) 0 0 0 0 0 0) w (w5.setCell ⟨w.heap.size+1,4,none⟩ (.int .i64 x5)) b s r5 (aR x1 x2 0 x4 x5 0 0 0 false (.slice none 0 0) 0 0 0 0 0 0):=J5.put 4 (.int .i64 x5);clear J5;go_wp2_with (refine dj rfl 93 _ rfl (w.heap.size+1) rfl 93 (aR x1 x2 0 x4 x5 0 0 0 false (.slice none 0 0) 0 0 0 0 0 0) (0,0) _ K5.L underlying93 rfl Tryz.db ?_);refine(Ls _ _ _ _ _ _ _ _ _ _ _ _ _ _ _ _ false _ Hd.out).mono ?_;rintro e w6⟨rfl,fD⟩;have J6:=K5.gV fD;clear fD K5 a5 b5;go_wp2_with fail;refine(jL b s r5 _ J6.R pV (by omega)).mono ?_;rintro e w7⟨x7,r7,zJ,l7,u7,zK,rfl,sD,dJ⟩;have J7:fU 93 (aR 0 0 0 0 0 0 0 0 false (.slice none 0 0) 0 0 0 0 0 0) w w7 b s r7 (aR x1 x2 0 x4 x5 0 0 0 false (.slice none 0 0) 0 0 0 0 0 0):=J6.call sD dJ;clear dJ sD J6;have a7:w7.cell? ⟨w.heap.size+1,5,none⟩=some (.int .i64 0):=J7.L.cell 5;have b7:=J7.L.free 5
 have K7:fU 93 (aR 0 0 0 0 0 0 0 0 false (.slice none 0 0) 0 0 0 0 0 0) w (w7.setCell ⟨w.heap.size+1,5,none⟩ (.int .i64 x7)) b s r7 (aR x1 x2 0 x4 x5 x7 0 0 false (.slice none 0 0) 0 0 0 0 0 0):=J7.put 5 (.int .i64 x7);clear J7;go_wp2_with fail;have eC:=K7.hb;have zz:=K7.g.size;have zl:=K7.L.lt;refine(PS x1 ⟨l1,u1⟩ b (w.heap.size+1) s r7 _ _ _ _ _ _ K7.R K7.L (by omega) zK hs).mono ?_;rintro e wf⟨size,aE,same,ao,m,cp,xs,lo,hi,aS,below,left,right,rf,GM,y1,y2,y3,y4,y5,y6,y7,y8,qG,GN,rfl,gX,GO,sE,fV⟩;have Jf:fU 93 (aR 0 0 0 0 0 0 0 0 false (.slice none 0 0) 0 0 0 0 0 0) w wf b s rf (aR x1 x2 0 x4 x5 x7 size aE same (.slice ao m cp) lo hi aS below left right):=K7.dg sE gX fV;clear fV sE gX K7 a7 b7;go_wp2_with (first|(refine dj rfl 93 _ rfl (w.heap.size+1) rfl 93 (aR x1 x2 0 x4 x5 x7 size aE same (.slice ao m cp) lo hi aS below left right) (0,0) _ Jf.L underlying93 rfl Tryz.db ?_)|(refine aaY rfl 93 _ _ rfl w.heap.size (aR x1 x2 0 x4 x5 x7 size aE same (.slice ao m cp) lo hi aS below left right) rfl rfl 93 (aR 0 0 0 0 0 0 0 0 false (.slice none 0 0) 0 0 0 0 0 0) Jf.G Tryz.db rfl (nY ..) ?_));have GP:=(zN Jf (aR x1 x2 0 x4 x5 x7 size aE same (.slice ao m cp) lo hi aS below left right)).1;have Bu:=(zN Jf (aR x1 x2 0 x4 x5 x7 size aE same (.slice ao m cp) lo hi aS below left right)).2.1;have GQ:=(zN Jf (aR x1 x2 0 x4 x5 x7 size aE same (.slice ao m cp) lo hi aS below left right)).2.2;refine bodyPost_ret (v:=.agg (aR x1 x2 0 x4 x5 x7 size aE same (.slice ao m cp) lo hi aS below left right)) ?hr rfl ?_
 case hr=>exact results_cell_row Tryz.results126 _ _ w.heap.size 93 (aR x1 x2 0 x4 x5 x7 size aE same (.slice ao m cp) lo hi aS below left right) (0,0) _ rfl GQ underlying93 rfl Tryz.db
 have he:=PT (r3:=r5) df.out dL.out (by rw[ay Hc.out];simp only[gU.out,qD.out]) (by rw[ak (by rw[Hd.out];simp)]) zJ.out GM.out;refine⟨⟨x1,x2,0,x4,x5,x7,size,aE,same,xs,lo,hi,aS,below,left,right⟩,ao,m,cp,rf,he,?_,GN,rfl,?_,GP,dF Jf.g Bu (bj _)⟩
 ·exact⟨⟨l1,u1⟩,⟨l2,u2⟩,by simp only;omega,by simp only;omega,by simp only;omega,by simp only;omega,y1,y2,y3,y4,y5,y6,y7,y8,qG⟩
 ·exact m9 (pf GO Bu (by simp at zl ⊢;omega)) (by simp at zz ⊢;omega)
theorem ahg(b:Nat)(s:ByteArray)(r:M.RS)(w:World)(h:Rd w b s r)(hp:r.bG<=s.size)(hs:s.size<=4096)(hc:M.cm (M.iZ s 1 10 r).1=false)(hd:M.dr (M.iZ s 1 10 r).1=true) :
  Calls prog 126 #[.pointer (some ⟨b,0,none⟩)] w fun e w'=>∃o ao m c r',Hid (M.op s r=(o,r'))/\lW o/\r'.bG<=s.size/\e=.returned (.agg (aO o (.slice ao m c)))/\gy w' w.heap.size (.slice ao m c) o.bM/\Rd w' b s r'/\w.grownBy w' (some b):=by
 have I0:=fU.start (T:=93) (z:=(aR 0 0 0 0 0 0 0 0 false (.slice none 0 0) 0 0 0 0 0 0)) h;have Hc:=ae hc;have Hd:=ae hd;clear hc hd;go_enter func126,ntmps126;go_wp2_with fail;refine(EV b s r 1 10 _ I0.R hp (by omega) (by omega) (by omega) (by omega)).mono ?_;rintro e w1⟨x1,r1,df,l1,u1,eV,rfl,gI,aH⟩;have J1:fU 93 (aR 0 0 0 0 0 0 0 0 false (.slice none 0 0) 0 0 0 0 0 0) w w1 b s r1 (aR 0 0 0 0 0 0 0 0 false (.slice none 0 0) 0 0 0 0 0 0):=I0.call gI aH;clear aH gI I0;have a1:w1.cell? ⟨w.heap.size+1,0,none⟩=some (.int .i64 0):=J1.L.cell 0;have b1:=J1.L.free 0;have K1:fU 93 (aR 0 0 0 0 0 0 0 0 false (.slice none 0 0) 0 0 0 0 0 0) w (w1.setCell ⟨w.heap.size+1,0,none⟩ (.int .i64 x1)) b s r1 (aR x1 0 0 0 0 0 0 0 false (.slice none 0 0) 0 0 0 0 0 0):=J1.put 0 (.int .i64 x1);clear J1;rw[df.out] at Hc Hd;go_wp2_with fail;refine(jL b s r1 _ K1.R eV (by omega)).mono ?_;rintro e w2⟨x2,r2,dL,l2,u2,fY,rfl,gK,aM⟩;have J2:fU 93 (aR 0 0 0 0 0 0 0 0 false (.slice none 0 0) 0 0 0 0 0 0) w w2 b s r2 (aR x1 0 0 0 0 0 0 0 false (.slice none 0 0) 0 0 0 0 0 0):=K1.call gK aM;clear aM gK K1 a1 b1;have a2:w2.cell? ⟨w.heap.size+1,1,none⟩=some (.int .i64 0):=J2.L.cell 1;have b2:=J2.L.free 1;have K2:fU 93 (aR 0 0 0 0 0 0 0 0 false (.slice none 0 0) 0 0 0 0 0 0) w (w2.setCell ⟨w.heap.size+1,1,none⟩ (.int .i64 x2)) b s r2 (aR x1 x2 0 0 0 0 0 0 false (.slice none 0 0) 0 0 0 0 0 0):=J2.put 1 (.int .i64 x2);clear J2;go_wp2_with (refine dj rfl 93 _ rfl (w.heap.size+1) rfl 93 (aR x1 x2 0 0 0 0 0 0 false (.slice none 0 0) 0 0 0 0 0 0) (0,0) _ K2.L underlying93 rfl Tryz.db ?_);refine(rl _ _ _ _ _ _ _ _ _ _ _ _ _ _ _ _ false _ Hc.out).mono ?_;rintro e w3⟨rfl,aU⟩;have J3:=K2.gV aU;clear aU K2 a2 b2
 go_wp2_with (refine dj rfl 93 _ rfl (w.heap.size+1) rfl 93 (aR x1 x2 0 0 0 0 0 0 false (.slice none 0 0) 0 0 0 0 0 0) (0,0) _ J3.L underlying93 rfl Tryz.db ?_);refine(Ls _ _ _ _ _ _ _ _ _ _ _ _ _ _ _ _ true _ Hd.out).mono ?_;rintro e w4⟨rfl,bm⟩;have J4:=J3.gV bm;clear bm J3;go_wp2_with fail;refine(jL b s r2 _ J4.R fY (by omega)).mono ?_;rintro e w5⟨x5,r5,qD,l5,u5,pV,rfl,j5,cJ⟩;have J5:fU 93 (aR 0 0 0 0 0 0 0 0 false (.slice none 0 0) 0 0 0 0 0 0) w w5 b s r5 (aR x1 x2 0 0 0 0 0 0 false (.slice none 0 0) 0 0 0 0 0 0):=J4.call j5 cJ;clear cJ j5 J4;have a5:w5.cell? ⟨w.heap.size+1,2,none⟩=some (.int .i64 0):=J5.L.cell 2;have b5:=J5.L.free 2;have K5:fU 93 (aR 0 0 0 0 0 0 0 0 false (.slice none 0 0) 0 0 0 0 0 0) w (w5.setCell ⟨w.heap.size+1,2,none⟩ (.int .i64 x5)) b s r5 (aR x1 x2 x5 0 0 0 0 0 false (.slice none 0 0) 0 0 0 0 0 0):=J5.put 2 (.int .i64 x5);clear J5;go_wp2_with fail;refine(jL b s r5 _ K5.R pV (by omega)).mono ?_;rintro e w6⟨x6,r6,tO,l6,u6,yl,rfl,oK,fD⟩;have J6:fU 93 (aR 0 0 0 0 0 0 0 0 false (.slice none 0 0) 0 0 0 0 0 0) w w6 b s r6 (aR x1 x2 x5 0 0 0 0 0 false (.slice none 0 0) 0 0 0 0 0 0):=K5.call oK fD;clear fD oK K5 a5 b5;have a6:w6.cell? ⟨w.heap.size+1,5,none⟩=some (.int .i64 0):=J6.L.cell 5;have b6:=J6.L.free 5;have K6:fU 93 (aR 0 0 0 0 0 0 0 0 false (.slice none 0 0) 0 0 0 0 0 0) w (w6.setCell ⟨w.heap.size+1,5,none⟩ (.int .i64 x6)) b s r6 (aR x1 x2 x5 0 0 x6 0 0 false (.slice none 0 0) 0 0 0 0 0 0):=J6.put 5 (.int .i64 x6);clear J6;go_wp2_with fail;have eC:=K6.hb;have zz:=K6.g.size;have zl:=K6.L.lt;refine(PS x1 ⟨l1,u1⟩ b (w.heap.size+1) s r6 _ _ _ _ _ _ K6.R K6.L (by omega) yl hs).mono ?_;rintro e wf⟨size,aE,same,ao,m,cp,xs,lo,hi,aS,below,left,right,rf,GM,y1,y2,y3,y4,y5,y6,y7,y8,qG,GN,rfl,gX,GO,sE,fV⟩
 have Jf:fU 93 (aR 0 0 0 0 0 0 0 0 false (.slice none 0 0) 0 0 0 0 0 0) w wf b s rf (aR x1 x2 x5 0 0 x6 size aE same (.slice ao m cp) lo hi aS below left right):=K6.dg sE gX fV;clear fV sE gX K6 a6 b6;go_wp2_with (first|(refine dj rfl 93 _ rfl (w.heap.size+1) rfl 93 (aR x1 x2 x5 0 0 x6 size aE same (.slice ao m cp) lo hi aS below left right) (0,0) _ Jf.L underlying93 rfl Tryz.db ?_)|(refine aaY rfl 93 _ _ rfl w.heap.size (aR x1 x2 x5 0 0 x6 size aE same (.slice ao m cp) lo hi aS below left right) rfl rfl 93 (aR 0 0 0 0 0 0 0 0 false (.slice none 0 0) 0 0 0 0 0 0) Jf.G Tryz.db rfl (nY ..) ?_));have GP:=(zN Jf (aR x1 x2 x5 0 0 x6 size aE same (.slice ao m cp) lo hi aS below left right)).1;have Bu:=(zN Jf (aR x1 x2 x5 0 0 x6 size aE same (.slice ao m cp) lo hi aS below left right)).2.1;have GQ:=(zN Jf (aR x1 x2 x5 0 0 x6 size aE same (.slice ao m cp) lo hi aS below left right)).2.2;refine bodyPost_ret (v:=.agg (aR x1 x2 x5 0 0 x6 size aE same (.slice ao m cp) lo hi aS below left right)) ?hr rfl ?_
 case hr=>exact results_cell_row Tryz.results126 _ _ w.heap.size 93 (aR x1 x2 x5 0 0 x6 size aE same (.slice ao m cp) lo hi aS below left right) (0,0) _ rfl GQ underlying93 rfl Tryz.db
 have he:=PT df.out dL.out (by rw[ak (by rw[Hc.out];simp)]) (by rw[ay Hd.out];exact qD.out) tO.out GM.out;refine⟨⟨x1,x2,x5,0,0,x6,size,aE,same,xs,lo,hi,aS,below,left,right⟩,ao,m,cp,rf,he,?_,GN,rfl,?_,GP,dF Jf.g Bu (bj _)⟩
 ·exact⟨⟨l1,u1⟩,⟨l2,u2⟩,by simp only;omega,by simp only;omega,by simp only;omega,by simp only;omega,y1,y2,y3,y4,y5,y6,y7,y8,qG⟩
 ·exact m9 (pf GO Bu (by simp at zl ⊢;omega)) (by simp at zz ⊢;omega)
theorem ahh(b:Nat)(s:ByteArray)(r:M.RS)(w:World)(h:Rd w b s r)(hp:r.bG<=s.size)(hs:s.size<=4096)(hc:M.cm (M.iZ s 1 10 r).1=false)(hd:M.dr (M.iZ s 1 10 r).1=false) :
  Calls prog 126 #[.pointer (some ⟨b,0,none⟩)] w fun e w'=>∃o ao m c r',Hid (M.op s r=(o,r'))/\lW o/\r'.bG<=s.size/\e=.returned (.agg (aO o (.slice ao m c)))/\gy w' w.heap.size (.slice ao m c) o.bM/\Rd w' b s r'/\w.grownBy w' (some b):=by
 have I0:=fU.start (T:=93) (z:=(aR 0 0 0 0 0 0 0 0 false (.slice none 0 0) 0 0 0 0 0 0)) h;have Hc:=ae hc;have Hd:=ae hd;clear hc hd;go_enter func126,ntmps126;go_wp2_with fail;refine(EV b s r 1 10 _ I0.R hp (by omega) (by omega) (by omega) (by omega)).mono ?_;rintro e w1⟨x1,r1,df,l1,u1,eV,rfl,gI,aH⟩;have J1:fU 93 (aR 0 0 0 0 0 0 0 0 false (.slice none 0 0) 0 0 0 0 0 0) w w1 b s r1 (aR 0 0 0 0 0 0 0 0 false (.slice none 0 0) 0 0 0 0 0 0):=I0.call gI aH;clear aH gI I0;have a1:w1.cell? ⟨w.heap.size+1,0,none⟩=some (.int .i64 0):=J1.L.cell 0;have b1:=J1.L.free 0;have K1:fU 93 (aR 0 0 0 0 0 0 0 0 false (.slice none 0 0) 0 0 0 0 0 0) w (w1.setCell ⟨w.heap.size+1,0,none⟩ (.int .i64 x1)) b s r1 (aR x1 0 0 0 0 0 0 0 false (.slice none 0 0) 0 0 0 0 0 0):=J1.put 0 (.int .i64 x1);clear J1;rw[df.out] at Hc Hd;go_wp2_with fail;refine(jL b s r1 _ K1.R eV (by omega)).mono ?_;rintro e w2⟨x2,r2,dL,l2,u2,fY,rfl,gK,aM⟩;have J2:fU 93 (aR 0 0 0 0 0 0 0 0 false (.slice none 0 0) 0 0 0 0 0 0) w w2 b s r2 (aR x1 0 0 0 0 0 0 0 false (.slice none 0 0) 0 0 0 0 0 0):=K1.call gK aM;clear aM gK K1 a1 b1;have a2:w2.cell? ⟨w.heap.size+1,1,none⟩=some (.int .i64 0):=J2.L.cell 1;have b2:=J2.L.free 1;have K2:fU 93 (aR 0 0 0 0 0 0 0 0 false (.slice none 0 0) 0 0 0 0 0 0) w (w2.setCell ⟨w.heap.size+1,1,none⟩ (.int .i64 x2)) b s r2 (aR x1 x2 0 0 0 0 0 0 false (.slice none 0 0) 0 0 0 0 0 0):=J2.put 1 (.int .i64 x2);clear J2;go_wp2_with (refine dj rfl 93 _ rfl (w.heap.size+1) rfl 93 (aR x1 x2 0 0 0 0 0 0 false (.slice none 0 0) 0 0 0 0 0 0) (0,0) _ K2.L underlying93 rfl Tryz.db ?_);refine(rl _ _ _ _ _ _ _ _ _ _ _ _ _ _ _ _ false _ Hc.out).mono ?_;rintro e w3⟨rfl,aU⟩;have J3:=K2.gV aU;clear aU K2 a2 b2
 go_wp2_with (refine dj rfl 93 _ rfl (w.heap.size+1) rfl 93 (aR x1 x2 0 0 0 0 0 0 false (.slice none 0 0) 0 0 0 0 0 0) (0,0) _ J3.L underlying93 rfl Tryz.db ?_);refine(Ls _ _ _ _ _ _ _ _ _ _ _ _ _ _ _ _ false _ Hd.out).mono ?_;rintro e w4⟨rfl,bm⟩;have J4:=J3.gV bm;clear bm J3;go_wp2_with fail;refine(jL b s r2 _ J4.R fY (by omega)).mono ?_;rintro e w5⟨x5,r5,qD,l5,u5,pV,rfl,j5,cJ⟩;have J5:fU 93 (aR 0 0 0 0 0 0 0 0 false (.slice none 0 0) 0 0 0 0 0 0) w w5 b s r5 (aR x1 x2 0 0 0 0 0 0 false (.slice none 0 0) 0 0 0 0 0 0):=J4.call j5 cJ;clear cJ j5 J4;have a5:w5.cell? ⟨w.heap.size+1,5,none⟩=some (.int .i64 0):=J5.L.cell 5;have b5:=J5.L.free 5;have K5:fU 93 (aR 0 0 0 0 0 0 0 0 false (.slice none 0 0) 0 0 0 0 0 0) w (w5.setCell ⟨w.heap.size+1,5,none⟩ (.int .i64 x5)) b s r5 (aR x1 x2 0 0 0 x5 0 0 false (.slice none 0 0) 0 0 0 0 0 0):=J5.put 5 (.int .i64 x5);clear J5;go_wp2_with fail;have eC:=K5.hb;have zz:=K5.g.size;have zl:=K5.L.lt;refine(PS x1 ⟨l1,u1⟩ b (w.heap.size+1) s r5 _ _ _ _ _ _ K5.R K5.L (by omega) pV hs).mono ?_;rintro e wf⟨size,aE,same,ao,m,cp,xs,lo,hi,aS,below,left,right,rf,GM,y1,y2,y3,y4,y5,y6,y7,y8,qG,GN,rfl,gX,GO,sE,fV⟩;have Jf:fU 93 (aR 0 0 0 0 0 0 0 0 false (.slice none 0 0) 0 0 0 0 0 0) w wf b s rf (aR x1 x2 0 0 0 x5 size aE same (.slice ao m cp) lo hi aS below left right):=K5.dg sE gX fV;clear fV sE gX K5 a5 b5;go_wp2_with (first|(refine dj rfl 93 _ rfl (w.heap.size+1) rfl 93 (aR x1 x2 0 0 0 x5 size aE same (.slice ao m cp) lo hi aS below left right) (0,0) _ Jf.L underlying93 rfl Tryz.db ?_)|(refine aaY rfl 93 _ _ rfl w.heap.size (aR x1 x2 0 0 0 x5 size aE same (.slice ao m cp) lo hi aS below left right) rfl rfl 93 (aR 0 0 0 0 0 0 0 0 false (.slice none 0 0) 0 0 0 0 0 0) Jf.G Tryz.db rfl (nY ..) ?_))
 have GP:=(zN Jf (aR x1 x2 0 0 0 x5 size aE same (.slice ao m cp) lo hi aS below left right)).1;have Bu:=(zN Jf (aR x1 x2 0 0 0 x5 size aE same (.slice ao m cp) lo hi aS below left right)).2.1;have GQ:=(zN Jf (aR x1 x2 0 0 0 x5 size aE same (.slice ao m cp) lo hi aS below left right)).2.2;refine bodyPost_ret (v:=.agg (aR x1 x2 0 0 0 x5 size aE same (.slice ao m cp) lo hi aS below left right)) ?hr rfl ?_
 case hr=>exact results_cell_row Tryz.results126 _ _ w.heap.size 93 (aR x1 x2 0 0 0 x5 size aE same (.slice ao m cp) lo hi aS below left right) (0,0) _ rfl GQ underlying93 rfl Tryz.db
 have he:=PT df.out dL.out (by rw[ak (by rw[Hc.out];simp)]) (by rw[ak (by rw[Hd.out];simp)]) qD.out GM.out;refine⟨⟨x1,x2,0,0,0,x5,size,aE,same,xs,lo,hi,aS,below,left,right⟩,ao,m,cp,rf,he,?_,GN,rfl,?_,GP,dF Jf.g Bu (bj _)⟩
 ·exact⟨⟨l1,u1⟩,⟨l2,u2⟩,by simp only;omega,by simp only;omega,by simp only;omega,by simp only;omega,y1,y2,y3,y4,y5,y6,y7,y8,qG⟩
 ·exact m9 (pf GO Bu (by simp at zl ⊢;omega)) (by simp at zz ⊢;omega)
theorem ahi(b:Nat)(s:ByteArray)(r:M.RS)(w:World)(h:Rd w b s r)(hp:r.bG<=s.size)(hs:s.size<=4096) :
  Calls prog 126 #[.pointer (some ⟨b,0,none⟩)] w fun e w'=>∃o ao m c r',Hid (M.op s r=(o,r'))/\lW o/\r'.bG<=s.size/\e=.returned (.agg (aO o (.slice ao m c)))/\gy w' w.heap.size (.slice ao m c) o.bM/\Rd w' b s r'/\w.grownBy w' (some b):=by
 cases hc:M.cm (M.iZ s 1 10 r).1 with
 | true=>exact ahf b s r w h hp hs hc (VK hc)
 | false=>
  cases hd:M.dr (M.iZ s 1 10 r).1 with
  | true=>exact ahg b s r w h hp hs hc hd
  | false=>exact ahh b s r w h hp hs hc hd
theorem ahj(b:Nat)(s:ByteArray)(r:M.RS)(w:World)(h:Rd w b s r)(hp:r.bG<=s.size)(hs:s.size<=4096) :
  Calls prog 126 #[.pointer (some ⟨b,0,none⟩)] w fun e w'=>∃o ao m c r',Hid (M.op s r=(o,r'))/\lW o/\r'.bG<=s.size /\
   e=.returned (.agg #[.int .i64 o.af,.int .i64 o.a,.int .i64 o.b,.int .i64 o.aP,.int .i64 o.bA,.int .i64 o.to,.int .i64 o.size,.int .i64 o.aE,.bool o.same,.slice ao m c,.int .i64 o.lo,.int .i64 o.hi,.int .i64 o.aS,.int .i64 o.below,.int .i64 o.left,.int .i64 o.right]) /\
   gy w' w.heap.size (.slice ao m c) o.bM/\Rd w' b s r'/\w.grownBy w' (some b):=ahi b s r w h hp hs
theorem Tryz.Lt:(prog.info? 93).map (fun i=>(i.zero,i.size,i.bytes))=some (some (.agg (aR 0 0 0 0 0 0 0 0 false (.slice none 0 0) 0 0 0 0 0 0)),16,144):=by kernel_rfl
def je(w:World)(base:Nat)(v:Value)(os:List M.Op):Prop:=
 ∃ps:List (M.Op×Value),ps.map (·.1)=os/\w.ownsRow base 93 16 v os.length (ps.flatMap fun p=>(aO p.1 p.2).toList)/\∀p∈ps,gy w base p.2 p.1.bM
theorem je.nil(w:World)(base:Nat):je w base (.slice none 0 0) []:=⟨[],rfl,kq _ _ _ _,by simp⟩
theorem je.kept{w w':World}{base b:Nat}{v:Value}{os:List M.Op}(h:je w base v os)(hg:w.grownBy w' (some b))(hb:b<base):je w' base v os:=by
 obtain⟨ps,h1,h2,h3⟩:=h;exact⟨ps,h1,pf h2 hg hb,fun p hp=>pf (h3 p hp) hg hb⟩
theorem je.Z{w w':World}{base:Nat}{v:Value}{os:List M.Op}(h:je w base v os)(hg:w.grownBy w' none):je w' base v os:=by
 obtain⟨ps,h1,h2,h3⟩:=h;exact⟨ps,h1,eW h2 hg,fun p hp=>eW (h3 p hp) hg⟩
theorem je.mono{w:World}{base base':Nat}{v:Value}{os:List M.Op}(h:je w base v os)(hb:base'<=base):je w base' v os:=by
 obtain⟨ps,h1,h2,h3⟩:=h;exact⟨ps,h1,m9 h2 hb,fun p hp=>m9 (h3 p hp) hb⟩
theorem je.pk{w w2:World}{B:Nat}{v v':Value}{ps:List (M.Op×Value)}{os:List M.Op}{o:M.Op}{sv:Value}(h1:ps.map (·.1)=os)(h2:w.ownsRow B 93 16 v os.length (ps.flatMap fun p=>(aO p.1 p.2).toList))(h3:∀p∈ps,gy w B p.2 p.1.bM)
  (hd:gy w B sv o.bM) (aM:w.grownBy w2 v.ownBlock)
  (cB:w2.ownsRow B 93 16 v' (os.length+1) ((ps.flatMap fun p=>(aO p.1 p.2).toList)++(aO o sv).toList)):je w2 B v' (os++[o]):=by
 refine⟨ps++[(o,sv)],by simp[h1],by simpa using cB,?_⟩;intro p hp;rcases List.mem_append.1 hp with hp|hp
 ·exact nV (h3 p hp) h2 (by decide) aM
 ·simp at hp
  subst hp;exact nV hd h2 (by decide) aM
theorem ahk(b:Nat)(s:ByteArray)(r:M.RS)(w:World)(h:Rd w b s r)(hp:r.bG<=s.size)(hs:s.size<=4096) :
  Calls prog 86 #[.pointer (some ⟨b,0,none⟩)] w fun e w'=>∃v os r',Hid (M.ag s r=(os,r'))/\(∀o∈os,lW o)/\os.length<=255/\r'.bG<=s.size/\e=.returned v/\je w' w.heap.size v os/\Rd w' b s r'/\w.grownBy w' (some b):=by
 obtain⟨i0,hi,cQ,cR,cZ⟩:=info_parts Tryz.Lt;have dh:=h.lt;go_enter func86,ntmps86;go_wp2_with fail;refine(jL b s r _ h hp (by omega)).mono ?_;rintro e w1⟨x1,r1,df,l1,u1,eV,rfl,gI,aH⟩;obtain⟨n,rfl⟩:=fR l1;have zO:=ae cQ;clear cQ;go_wp2;go_loopw[4,5] (fun v i wr=>∃k:Nat,k<=n/\i=.int .i64 k/\Rd wr b s (M.eY (M.op s) k r1).2/\(M.eY (M.op s) k r1).2.bG<=s.size/\je wr w.heap.size v (M.eY (M.op s) k r1).1/\(∀t∈(M.eY (M.op s) k r1).1,lW t)/\w.grownBy wr (some b)) (fun _ i _=>n-(intOf i).toNat)
 case atStart=>exact⟨0,bK _,rfl,gI,eV,je.nil _ _,by simp[M.eY],aH⟩
 case round=>
  obtain⟨k,hk,rfl,jn,oJ,lI,lJ,aF⟩:=hrel;have GH:=VH (M.op s) k r1;obtain⟨c0,c1,c2,f1,f2⟩:=jn.cells;clear c0 c1 f1 f2;by_cases aK:k<n
  ·cases fy:(M.eY (M.op s) k r1).2.fX with
   | true=>
    rw[fy] at c2;have zL:=VG (M.op s) k n r1 hk fy;have He:=ae zL;have Hb:=ae fy;clear zL fy;go_wp2;go_ret;exact⟨_,_,_,by simp only[Hid,M.ag,df.out,ey,He.out],lJ,by omega,oJ,rfl,lI,jn,aF⟩
   | false=>
    rw[fy] at c2;have wV:M.eY (M.op s) (k+1) r1=((M.eY (M.op s) k r1).1++[(M.op s (M.eY (M.op s) k r1).2).1],(M.op s (M.eY (M.op s) k r1).2).2):=by rw[M.eY,ak (by simp[fy])]
    have Hs:=ae wV;clear wV fy;generalize (M.eY (M.op s) k r1).1=ts at *;generalize (M.eY (M.op s) k r1).2=rk at *;go_wp2_with fail;refine(ahj b s rk _ jn oJ hs).mono ?_;rintro e w3⟨t,ao,m,c,r3,im,PO,qC,rfl,kY,kW,aU⟩;have jz:w.grownBy w3 (some b):=aC aF aU;obtain⟨ps,q1,q2,q3⟩:=lI.kept aU dh;have GI:gy w3 w.heap.size (.slice ao m c) t.bM:=m9 kY aF.size;have Dq:=jz.size;clear lI kY aU jn c2 aF;go_wp2_with (at_builtin;refine ng _ rfl _ _ 88 rfl w.heap.size 93 i0 (.agg (aR 0 0 0 0 0 0 0 0 false (.slice none 0 0) 0 0 0 0 0 0)) 16 144 underlying88 hi zO.out cR cZ rfl (by decide) _ _ _ rfl ((q2.alloc _).alloc _) ⟨w3.heap.size+1,0,none⟩ 1 1 (aO t (.slice ao m c)).toList rfl rfl ?c1 ?c2 ?c3 ?c4 ?c5 ?_)
    case c1=>exact VB w3 _ 93 _
    case c2=>intro u hu;simp[aO] at hu;rcases hu with rfl|rfl|rfl|rfl|rfl|rfl|rfl|rfl|rfl|rfl|rfl|rfl|rfl|rfl|rfl|rfl<;>rfl
    case c3=>unfold maxLen;omega
    case c4=>omega
    case c5=>simp;omega
    intro v' w4 dC cV _;have bC:w3.grownBy w4 u4.ownBlock:=by
     have:=aC (nT w3 _ _ _) cV;exact this
    have zM:=je.pk q1 q2 q3 GI bC dC;have dR:=mE q2;have sF:w.grownBy w4 (some b):=mA jz bC dR;have jb:Rd w4 b s r3:=aj.kept kW bC (by intro e;have:=dR b e.symm;omega);clear dC cV bC q2 q3 GI jz kW dR;go_wp2;go_roundw
    case rel=>
     have e1:=Hs.out;rw[im.out] at e1;refine⟨k+1,by omega,by go_num,?_,?_,?_,?_,sF⟩
     ·rw[e1];exact jb
     ·rw[e1];exact qC
     ·rw[e1];exact zM
     ·rw[e1];intro t' ig
      rcases List.mem_append.1 ig with h' | h'
      ·exact lJ t' h'
      ·simp at h';subst h';exact PO
    case measure=>simp[intOf];omega
  ·obtain rfl:k=n:=by omega
   clear c2;go_wp2;go_ret;exact⟨_,_,_,by simp only[Hid,M.ag,df.out,ey],lJ,by omega,oJ,rfl,lI,jn,aF⟩
theorem VL(s:ByteArray):(s.extract 0 4).toList=s.data.toList.take 4:=by
 rw[Lib.toList_data,Lib.extract_data];simp
theorem VM{s:ByteArray}(h:s.size<4\/(!(s.extract 0 4).toList==[116,102,108,49])=true):M.sB s=⟨0,true⟩:=by
 rw[VL] at h;unfold M.sB M.Dm;rw[ay];rcases h with h|h
 ·simp[h]
 ·simp at h;simp[h]
theorem ahl{s:ByteArray}(h4:4<=s.size)(h:(!(s.extract 0 4).toList==[116,102,108,49])=false):M.sB s=⟨4,false⟩:=by
 rw[VL] at h;unfold M.sB M.Dm;rw[ak];simp at h;simp[h];omega
theorem ahm(b:Nat)(s:ByteArray)(w:World)(h:Rd w b s ⟨0,false⟩)(hm:s.size<=4096) :
  Calls prog 84 #[.pointer (some ⟨b,0,none⟩)] w fun e w'=>e=.returned (.tuple #[])/\Rd w' b s (M.sB s)/\(M.sB s).bG<=s.size/\w.grownBy w' (some b):=by
 obtain⟨c0,c1,c2,f1,f2⟩:=h.cells;by_cases hs:s.size<4
 ·go_enter func84,ntmps84
  go_wp2;refine bodyPost_ret (v:=.tuple #[]) (by simp[results,Tryz.results84,go_sem]) rfl ?_;rw[VM (.inl hs)];exact⟨rfl,aj.set h 2 _,bK _,bD _ _ _ _⟩
 ·have rm:4<=s.size:=by omega
  cases hh:(!(s.extract 0 4).toList==[116,102,108,49]) with
  | true=>
   have e:=VM (.inr hh);have He:=ae e;clear e;go_enter func84,ntmps84;go_wp2;refine bodyPost_ret (v:=.tuple #[]) (by simp[results,Tryz.results84,go_sem]) rfl ?_;rw[He.out];exact⟨rfl,aj.set h 2 _,bK _,bD _ _ _ _⟩
  | false=>
   have e:=ahl rm hh;have He:=ae e;clear e;go_enter func84,ntmps84;go_wp2;go_end0;rw[He.out];exact⟨rfl,aj.set h 1 _,rm,bD _ _ _ _⟩
theorem gY{w:World}{base:Nat}{e:TypeId}{size n:Nat}{v:Value}{xs:List Value}(h:w.ownsRow base e size v n xs):∃ao c,v=.slice ao n c:=by
 rcases h.2 with⟨rfl,rfl⟩|⟨g,cap,dV,rfl,_⟩
 ·exact⟨_,_,rfl⟩
 ·exact⟨_,_,rfl⟩
def cN(w:World)(m:Nat)(md:M.Md):Prop:=
 ∃a1 c1 a2 c2 a3 c3,aj w m 90 #[.slice a1 md.au.length c1,.slice a2 md.ag.length c2,.slice a3 md.aJ.length c3] /\
  ir w (m+1) (.slice a1 md.au.length c1) md.au/\je w (m+1) (.slice a2 md.ag.length c2) md.ag/\aZ w (m+1) (.slice a3 md.aJ.length c3) md.aJ
structure lK(md:M.Md):Prop where
 ts:∀t∈md.au,dW t
 os:∀o∈md.ag,lW o
 nt:md.au.length<=255
 no:md.ag.length<=255
 nu:md.aJ.length<=255
theorem ahn{s:ByteArray}{r r':M.RS}{l:List Int}(hp:r.bG<=s.size)(h:M.aJ s r=(l,r')):l.length<=255:=by
 have h1:=(Dn s r hp).2;have e:l=(M.aJ s r).1:=by rw[h]
 rw[e];simp only[M.aJ]
 split
 ·rw[Bp];omega
 ·simp
theorem VN{s:ByteArray}(h:s.size<=4096)(hb:(M.gm s).2.fX=true\/(M.gm s).2.bG≠s.size):M.nQ s=2:=by
 unfold M.nQ;rw[ak (by omega),ay];rcases hb with hb|hb<;>simp[hb]
theorem aho{s:ByteArray}(h:s.size<=4096)(hb:(M.gm s).2.fX=false)(hp:(M.gm s).2.bG=s.size):M.nQ s=0:=by
 unfold M.nQ;rw[ak (by omega),ak];simp[hb,hp]
theorem ahp(s:ByteArray)(w:World)(hs:4096<s.size)(hm:s.size<=9223372036854775807) :
  Calls prog 50 #[.string s] w fun e w'=>e=.returned (.tuple #[.pointer none,.int .i64 1])/\w.grownBy w' none:=by
 go_enter func50,ntmps50;go_wp2
 go_ret2
 exact⟨rfl,gL _ _⟩
theorem ahq(b:Nat)(s:ByteArray)(r:M.RS)(w:World)(h:Rd w b s r)(hp:r.bG<=s.size)(hs:s.size<=4096) :
  Calls prog 85 #[.pointer (some ⟨b,0,none⟩)] w fun e w'=>∃ao c ts r',Hid (M.au s r=(ts,r'))/\(∀t∈ts,dW t)/\ts.length<=255/\r'.bG<=s.size/\e=.returned (.slice ao ts.length c)/\ir w' w.heap.size (.slice ao ts.length c) ts/\Rd w' b s r'/\w.grownBy w' (some b):=
 (agY b s r w h hp hs).mono fun e w' ⟨v,ts,r',h1,h2,h3,h4,h5,h6,h7,h8⟩=>by
  have PU:=h6;obtain⟨ps,q1,q2,q3⟩:=h6;obtain⟨ao,c,rfl⟩:=gY q2;exact⟨ao,c,ts,r',h1,h2,h3,h4,h5,PU,h7,h8⟩
theorem ahr(b:Nat)(s:ByteArray)(r:M.RS)(w:World)(h:Rd w b s r)(hp:r.bG<=s.size)(hs:s.size<=4096) :
  Calls prog 86 #[.pointer (some ⟨b,0,none⟩)] w fun e w'=>∃ao c os r',Hid (M.ag s r=(os,r'))/\(∀o∈os,lW o)/\os.length<=255/\r'.bG<=s.size/\e=.returned (.slice ao os.length c)/\je w' w.heap.size (.slice ao os.length c) os/\Rd w' b s r'/\w.grownBy w' (some b):=
 (ahk b s r w h hp hs).mono fun e w' ⟨v,ts,r',h1,h2,h3,h4,h5,h6,h7,h8⟩=>by
  have PU:=h6;obtain⟨ps,q1,q2,q3⟩:=h6;obtain⟨ao,c,rfl⟩:=gY q2;exact⟨ao,c,ts,r',h1,h2,h3,h4,h5,PU,h7,h8⟩
theorem ahs(b:Nat)(s:ByteArray)(r:M.RS)(w:World)(h:Rd w b s r)(hp:r.bG<=s.size)(hs:s.size<=4096) :
  Calls prog 87 #[.pointer (some ⟨b,0,none⟩)] w fun e w'=>∃ao c l r',Hid (M.aJ s r=(l,r'))/\r'.bG<=s.size/\e=.returned (.slice ao l.length c)/\aZ w' w.heap.size (.slice ao l.length c) l/\Rd w' b s r'/\w.grownBy w' (some b):=
 (agL b s r w h hp hs).mono fun e w' ⟨v,l,r',h1,h2,h3,h4,h5,h6⟩=>by
  obtain⟨ao,c,rfl⟩:=gY h4;exact⟨ao,c,l,r',h1,h2,h3,h4,h5,h6⟩
structure Dy(w0 w1:World)(s:ByteArray)(r:M.RS)(cs:Array Value):Prop where
 R:Rd w1 w0.heap.size s r
 B:aj w1 (w0.heap.size+1) 90 cs
 g:w0.grownBy w1 none
theorem Dy.call{w0 w1 w2:World}{s:ByteArray}{r r':M.RS}{cs:Array Value}(h:Dy w0 w1 s r cs)(hR:Rd w2 w0.heap.size s r')(hg:w1.grownBy w2 (some w0.heap.size)):Dy w0 w2 s r' cs:=
 ⟨hR,h.B.kept hg (by simp),dF h.g hg (bj _)⟩
theorem Dy.put{w0 w1:World}{s:ByteArray}{r:M.RS}{cs:Array Value}(h:Dy w0 w1 s r cs)(i:Nat)(v:Value):Dy w0 (w1.setCell ⟨w0.heap.size+1,i,none⟩ v) s r (cs.setIfInBounds i v):=
 ⟨aj.yf h.R (by simp) _,h.B.set i v,dF h.g (bD _ _ _ _) (by omega)⟩
theorem aht(s:ByteArray)(w:World)(hs:s.size<=4096) :
  Calls prog 50 #[.string s] w fun e w'=>w.grownBy w' none/\((M.nQ s=2/\e=.returned (.tuple #[.pointer none,.int .i64 2])) \/
   (M.nQ s=0/\∃m,w.heap.size<=m/\e=.returned (.tuple #[.pointer (some ⟨m,0,none⟩),.int .i64 0])/\cN w' m (M.gm s).1/\lK (M.gm s).1)):=by
 have I0:Dy w ((w.alloc (.cells #[.string s,.int .i64 0,.bool false] 154)).alloc (.cells #[.slice none 0 0,.slice none 0 0,.slice none 0 0] 90)) s ⟨0,false⟩ #[.slice none 0 0,.slice none 0 0,.slice none 0 0]:=
  ⟨aj.alloc (aj.bB w 154 _) _,aj.yg w _ _ _,nT w _ _ _⟩
 go_enter func50,ntmps50;go_wp2_with fail;refine(ahm w.heap.size s _ I0.R hs).mono ?_;rintro e w1⟨rfl,gI,eV,aH⟩;have I1:=I0.call gI aH;clear gI aH I0;go_wp2_with fail;refine(ahq w.heap.size s _ _ I1.R eV hs).mono ?_;rintro e w2⟨a2,c2,ts,r2,dL,sG,aK,fY,rfl,VO,gK,aM⟩;have I2:=I1.call gK aM;have VP:=VO.mono (base':=w.heap.size+2) (by have:=I1.B.lt;omega);clear gK aM VO I1;have d2:w2.cell? ⟨w.heap.size+1,0,none⟩=some (.slice none 0 0):=I2.B.cell 0;have b2:=I2.B.free 0;go_wp2_with fail;have J2:=I2.put 0 (.slice a2 ts.length c2);have GR:=VP.kept (bD w2 (w.heap.size+1) 0 (.slice a2 ts.length c2)) (by omega);refine(ahr w.heap.size s _ _ J2.R fY hs).mono ?_;rintro e w4⟨a4,c4,os,r4,gU,hwo,lX,mB,rfl,VQ,jb,bm⟩;have I4:=J2.call jb bm;have zM:=GR.kept bm (by omega);have VR:=VQ.mono (base':=w.heap.size+2) (by have:=J2.B.lt;omega);clear jb bm GR VP VQ J2 I2 d2 b2;have d4:w4.cell? ⟨w.heap.size+1,1,none⟩=some (.slice none 0 0):=I4.B.cell 1;have b4:=I4.B.free 1;go_wp2_with fail;have J4:=I4.put 1 (.slice a4 os.length c4);have Bv:=zM.kept (bD w4 (w.heap.size+1) 1 (.slice a4 os.length c4)) (by omega);have GS:=VR.kept (bD w4 (w.heap.size+1) 1 (.slice a4 os.length c4)) (by omega);refine(ahs w.heap.size s _ _ J4.R mB hs).mono ?_;rintro e w6⟨a6,c6,us,r6,tO,yl,rfl,VS,oK,fD⟩;have I6:=J4.call oK fD;have Du:=Bv.kept fD (by omega);have VT:=GS.kept fD (by omega);have VU:=VS.mono (base':=w.heap.size+2) (by have:=J4.B.lt;omega);clear oK fD Bv GS zM VR VS J4 I4 d4 b4;have d6:w6.cell? ⟨w.heap.size+1,2,none⟩=some (.slice none 0 0):=I6.B.cell 2;have b6:=I6.B.free 2;have J6:=I6.put 2 (.slice a6 us.length c6);have VV:=Du.kept (bD w6 (w.heap.size+1) 2 (.slice a6 us.length c6)) (by omega);have hO7:=VT.kept (bD w6 (w.heap.size+1) 2 (.slice a6 us.length c6)) (by omega)
 have hU7:=VU.kept (bD w6 (w.heap.size+1) 2 (.slice a6 us.length c6)) (by omega);have hwu:=ahn mB tO.out;clear Du VT VU;obtain⟨c0,c1,zP,f1,f2⟩:=I6.R.cells;have zQ:M.gm s=(⟨ts,os,us⟩,r6):=by simp only[M.gm,dL.out,gU.out,tO.out]
 have yn:=ae zQ;clear zQ c0 f1 f2 dL gU tO;have gz:=J6.g
 cases fy:r6.fX with
 | true=>
  have Bw:=VN hs (by rw[yn.out];exact .inl fy);have GU:=ae Bw;have Hb:=ae fy;rw[fy] at zP;clear Bw fy;go_wp2
  go_ret2
  exact⟨gz,.inl ⟨GU.out,rfl⟩⟩
 | false=>
  by_cases GV:r6.bG=s.size
  ·have Bw:=aho hs (by rw[yn.out];exact fy) (by rw[yn.out];exact GV)
   have GU:=ae Bw;rw[fy] at zP;rw[GV] at c1;clear Bw fy GV;go_wp2
   go_ret2
   refine⟨gz,.inr ⟨GU.out,w.heap.size+1,by omega,rfl,?_,?_⟩⟩
   ·rw[yn.out];exact⟨a2,c2,a4,c4,a6,c6,J6.B,VV,hO7,hU7⟩
   ·rw[yn.out];exact⟨sG,hwo,aK,lX,hwu⟩
  ·have Bw:=VN hs (by rw[yn.out];exact .inr GV)
   have GU:=ae Bw;have hn:((r6.bG:Int) != (s.size:Int))=true:=by simp;omega
   rw[fy] at zP;clear Bw fy GV;go_wp2
   go_ret2
   exact⟨gz,.inl ⟨GU.out,rfl⟩⟩
theorem lL{α β:Type}(f:α->List β)(k:Nat)(hf:∀a,(f a).length=k):∀(ps:List α) (i j:Nat) (p:α),ps[i]?=some p->j<k->(ps.flatMap f)[i*k+j]?=(f p)[j]?
 | [],i,j,p,h,_=>by simp at h
 | q::ps,0,j,p,h,hj=>by
  simp at h;subst h;rw[List.flatMap_cons,Nat.zero_mul,Nat.zero_add,rn (by rw[hf];exact hj)]
 | q::ps,i+1,j,p,h,hj=>by
  have e:(i+1)*k+j=(f q).length+(i*k+j):=by rw[hf,Nat.add_mul];omega
  rw[List.flatMap_cons,e,oL (by omega),Nat.add_sub_cancel_left];exact lL f k hf ps i j p (by simpa using h) hj
theorem nZ{w:World}{base:Nat}{e:TypeId}{size n:Nat}{a:Option Addr}{m c:Nat}{xs:List Value}(h:w.ownsRow base e size (.slice a m c) n xs)(hn:0<n):∃g,a=some ⟨g,0,none⟩/\base<=g/\m=n/\∀j,j<n*size->w.cell? ⟨g,j,none⟩=xs[j]?:=by
 rcases h.2 with⟨_,h0⟩|⟨g,cap,dV,hv,hb,hh,hr⟩
 ·omega
 ·injection hv with h1 h2 h3
  subst h1 h2 h3;exact⟨g,rfl,hb,rfl,fun j hj=>World.ownsRow.cellAt h j hj⟩
theorem ir.get{w:World}{base:Nat}{a:Option Addr}{n c:Nat}{ts:List M.Tn}(h:ir w base (.slice a n c) ts)(i:Nat)(t:M.Tn)(hi:ts[i]?=some t) :
  ∃g ao m cp,a=some ⟨g,0,none⟩/\n=ts.length/\base<=g/\aZ w base (.slice ao m cp) t.data /\
   w.cell? ⟨g,i*6,none⟩=some (.int .i64 t.af)/\w.cell? ⟨g,i*6+1,none⟩=some (.int .i64 t.h)/\w.cell? ⟨g,i*6+2,none⟩=some (.int .i64 t.w) /\
   w.cell? ⟨g,i*6+3,none⟩=some (.int .i64 t.c)/\w.cell? ⟨g,i*6+4,none⟩=some (.int .i64 t.zero)/\w.cell? ⟨g,i*6+5,none⟩=some (.slice ao m cp):=by
 obtain⟨ps,h1,h2,h3⟩:=h;have aK:i<ts.length:=by
  rcases cF i ts.length with h' | h'
  ·exact h'
  ·simp[cX h'] at hi
 obtain⟨g,ha,hb,hn,hc⟩:=nZ h2 (by omega);subst h1;rw[dY] at hi;obtain⟨p,hp,rfl⟩:=Option.map_eq_some_iff.1 hi;obtain⟨ao,m,cp,pW⟩:=(h3 p (bV hp)).bT;have hI:=h3 p (bV hp);rw[pW] at hI;have cK:∀j,j<6->w.cell? ⟨g,i*6+j,none⟩=(bg p.1 p.2).toList[j]?:=by
  intro j hj;rw[hc _ (by simp at aK ⊢;omega)];exact lL (fun p:M.Tn×Value=>(bg p.1 p.2).toList) 6 (fun a=>rfl) ps i j p hp hj
 refine⟨g,ao,m,cp,ha,hn,hb,hI,cK 0 (by omega),cK 1 (by omega),cK 2 (by omega),cK 3 (by omega),cK 4 (by omega),?_⟩;rw[cK 5 (by omega),pW]
 rfl
theorem cN.Z{w w':World}{m:Nat}{md:M.Md}(h:cN w m md)(hg:w.grownBy w' none):cN w' m md:=by
 obtain⟨a1,c1,a2,c2,a3,c3,h1,h2,h3,h4⟩:=h;exact⟨a1,c1,a2,c2,a3,c3,h1.kept hg (by simp),h2.Z hg,h3.Z hg,h4.Z hg⟩
theorem PV{md:M.Md}{n:Nat}{t:M.Tn}(h:md.au[n]?=some t):(md.au.map (·.af)).getD n 0=t.af:=by
 rw[nU,dY,h];rfl
theorem PW{md:M.Md}{n:Int}(h:n<0\/(md.au.length:Int)<=n):M.m7 md n=false:=by
 unfold M.m7;rcases h with h|h
 ·rw[show decide (0<=n)=false from by simp;omega];rfl
 ·rw[show decide (n<(md.au.length:Int))=false from by simp;omega];simp
theorem Lu{md:M.Md}{n q:Int}(h:n<0\/(md.au.length:Int)<=n):M.jJ md n q=false:=by
 unfold M.jJ;rcases h with h|h
 ·rw[show decide (0<=n)=false from by simp;omega];rfl
 ·rw[show decide (n<(md.au.length:Int))=false from by simp;omega];simp
theorem Lv(m:Nat)(md:M.Md)(n:Int)(w:World)(h:cN w m md)(_hw:md.au.length<=255) :
  Calls prog 130 #[.pointer (some ⟨m,0,none⟩),.int .i64 n] w fun e w'=>e=.returned (.bool (M.m7 md n))/\w'=w:=by
 obtain⟨a1,c1,a2,c2,a3,c3,hB,hT,hO,hU⟩:=h;have q0:w.cell? ⟨m,0,none⟩=some (.slice a1 md.au.length c1):=hB.cell 0;clear hB hO hU;by_cases h0:0<=n
 ·by_cases h1:n<md.au.length
  ·obtain⟨k,rfl⟩:=fR h0
   have hk:k<md.au.length:=by omega
   obtain⟨t,ht⟩:∃t,md.au[k]?=some t:=⟨_,aT hk⟩;obtain⟨g,ao,m',cp,rfl,-,-,-,d0,-⟩:=hT.get k t ht;have e:M.m7 md k=(t.af != 2):=by
    unfold M.m7;rw[ey,PV ht];simp[hk]
   have He:=ae e;clear e hT ht;go_enter func130,ntmps130;go_wp2;go_ret;exact⟨bq He.out.symm,rfl⟩
  ·have He:=ae (PW (n:=n) (.inr (by omega)):M.m7 md n=false)
   clear hT;go_enter func130,ntmps130;go_wp2;go_ret;exact⟨bq He.out.symm,rfl⟩
 ·have He:=ae (PW (n:=n) (.inl (by omega)):M.m7 md n=false)
  clear hT;go_enter func130,ntmps130;go_wp2;go_ret;exact⟨bq He.out.symm,rfl⟩
theorem GX(m:Nat)(md:M.Md)(n q:Int)(w:World)(h:cN w m md)(_hw:md.au.length<=255) :
  Calls prog 163 #[.pointer (some ⟨m,0,none⟩),.int .i64 n,.int .i64 q] w fun e w'=>e=.returned (.bool (M.jJ md n q))/\w'=w:=by
 obtain⟨a1,c1,a2,c2,a3,c3,hB,hT,hO,hU⟩:=h;have q0:w.cell? ⟨m,0,none⟩=some (.slice a1 md.au.length c1):=hB.cell 0;clear hB hO hU;by_cases h0:0<=n
 ·by_cases h1:n<md.au.length
  ·obtain⟨k,rfl⟩:=fR h0
   have hk:k<md.au.length:=by omega
   obtain⟨t,ht⟩:∃t,md.au[k]?=some t:=⟨_,aT hk⟩;obtain⟨g,ao,m',cp,rfl,-,-,-,d0,-⟩:=hT.get k t ht;have e:M.jJ md k q=(t.af==q):=by
    unfold M.jJ;rw[ey,PV ht];simp[hk]
   have He:=ae e;clear e hT ht;go_enter func163,ntmps163;go_wp2;go_ret;exact⟨bq He.out.symm,rfl⟩
  ·have He:=ae (Lu (n:=n) (q:=q) (.inr (by omega)):M.jJ md n q=false)
   clear hT;go_enter func163,ntmps163;go_wp2;go_ret;exact⟨bq He.out.symm,rfl⟩
 ·have He:=ae (Lu (n:=n) (q:=q) (.inl (by omega)):M.jJ md n q=false)
  clear hT;go_enter func163,ntmps163;go_wp2;go_ret;exact⟨bq He.out.symm,rfl⟩
theorem Tryz.iG:(prog.info? 106).map (·.size)=some 6:=by kernel_rfl
theorem GY(k h w c z:Int)(ao:Option Addr)(m cp:Nat):(t6 k h w c z (.slice ao m cp)).all (·.oneCell')=true:=by
 simp[Value.oneCell']
theorem VW{md:M.Md}{n:Int}(h:n<0\/(md.au.length:Int)<=n):M.aq md n=M.uY:=by
 unfold M.aq;rw[ay h]
theorem Lw{md:M.Md}{k:Nat}{t:M.Tn}(h:md.au[k]?=some t):M.aq md k=t:=by
 have hk:k<md.au.length:=by
  rcases cF k md.au.length with h' | h'
  ·exact h'
  ·simp[cX h'] at h
 unfold M.aq;rw[ak (by omega),ey,nU,h];rfl
theorem iS(m:Nat)(md:M.Md)(n:Int)(w:World)(h:cN w m md)(_hw:md.au.length<=255) :
  Calls prog 59 #[.pointer (some ⟨m,0,none⟩),.int .i64 n] w fun e w'=>∃t,Hid (M.aq md n=t)/\(∃ao p c,e=.returned (.agg #[.int .i64 t.af,.int .i64 t.h,.int .i64 t.w,.int .i64 t.c,.int .i64 t.zero,.slice ao p c]))/\w.grownBy w' none:=by
 obtain⟨a1,c1,a2,c2,a3,c3,hB,hT,hO,hU⟩:=h;have pX:=hB.lt;have q0:w.cell? ⟨m,0,none⟩=some (.slice a1 md.au.length c1):=hB.cell 0;clear hB hO hU;by_cases hc:n<0\/(md.au.length:Int)<=n
 ·have He:=ae (VW hc)
  clear hT;rcases hc with hc|hc
  ·go_enter func59,ntmps59
   go_wp2;refine bodyPost_ret (v:=.agg (t6 0 0 0 0 0 (.slice none 0 0))) ?hr rfl ?_
   case hr=>exact results_cell_row Tryz.results59 _ _ w.heap.size 106 _ (0,0) _ rfl (aj.bB w 106 _) underlying106 rfl Tryz.iG
   exact⟨M.uY,He,⟨none,0,0,rfl⟩,aQ _ _ _⟩
  ·by_cases vc:n<0
   ·omega
   ·go_enter func59,ntmps59
    go_wp2;refine bodyPost_ret (v:=.agg (t6 0 0 0 0 0 (.slice none 0 0))) ?hr rfl ?_
    case hr=>exact results_cell_row Tryz.results59 _ _ w.heap.size 106 _ (0,0) _ rfl (aj.bB w 106 _) underlying106 rfl Tryz.iG
    exact⟨M.uY,He,⟨none,0,0,rfl⟩,aQ _ _ _⟩
 ·obtain⟨k,rfl⟩:=fR (show 0<=n by omega)
  have hk:k<md.au.length:=by omega
  obtain⟨t,ht⟩:∃t,md.au[k]?=some t:=⟨_,aT hk⟩;obtain⟨g,ao,m',cp,rfl,-,-,-,d0,d1,d2,d3,d4,d5⟩:=hT.get k t ht;have He:=ae (Lw ht);have gN:g<w.heap.size:=pY w _ d0;clear hT ht hc;go_enter func59,ntmps59;go_wp2;refine bodyPost_ret (v:=.agg (t6 t.af t.h t.w t.c t.zero (.slice ao m' cp))) ?hr rfl ?_
  case hr=>exact results_cell_row Tryz.results59 _ _ w.heap.size 106 _ (0,0) _ rfl (aj.bB w 106 _) underlying106 rfl Tryz.iG
  exact⟨t,He,⟨ao,m',cp,rfl⟩,aQ _ _ _⟩
def part(t:M.Tn):Int:=if t.af=0\/t.af=3 then M.cellsOf t else 0
theorem ahy(l:List M.Tn)(t:M.Tn):M.sumTo (l++[t])=M.sumTo l+part t:=by
 induction l with
 | nil=>simp[M.sumTo,part]
 | cons a l ih=>simp only[List.cons_append,M.sumTo,ih];omega
theorem Lx{α:Type}{l:List α}{k:Nat}{t:α}(h:l[k]?=some t):l.take (k+1)=l.take k++[t]:=by
 have hk:k<l.length:=by
  rcases cF k l.length with h' | h'
  ·exact h'
  ·simp[cX h'] at h
 rw[List.take_succ_eq_append_getElem hk];rw[aT hk] at h;injection h with h;rw[h]
structure Bx(ts:List M.Tn)(k:Nat)(sum:Int):Prop where
 eq:M.sumTo (ts.take k)=sum
 lo:0<=sum
 hi:sum<=512*(k:Int)
 all:(ts.take k).all M.uX=true
theorem Bx.step{ts:List M.Tn}{k:Nat}{sum:Int}{t:M.Tn}(h:Bx ts k sum)(ht:ts[k]?=some t)(h1:1<=M.cellsOf t)(h2:M.cellsOf t<=512):Bx ts (k+1) (sum+part t):=by
 have hp:0<=part t/\part t<=512:=by unfold part;split<;>omega
 have e:=Lx ht;have h3:=h.lo;have h4:=h.hi;refine⟨by rw[e,ahy,h.eq],by omega,by simp only[Int.natCast_add,Int.cast_ofNat_Int];omega,?_⟩;rw[e,List.all_append,h.all];simp[M.uX];omega
theorem VX{md:M.Md}{k:Nat}{t:M.Tn}(ht:md.au[k]?=some t)(h:M.cellsOf t<1\/512<M.cellsOf t):M.m6 md=false:=by
 have h1:M.uX t=false:=by unfold M.uX;rcases h with h|h<;>simp[h]
 have h2:md.au.all M.uX=false:=by
  rw[List.all_eq_false];exact⟨t,bV ht,by simp[h1]⟩
 simp[M.m6,h2]
theorem ahz{md:M.Md}{sum:Int}(h:Bx md.au md.au.length sum)(h1:md.au.length<=24)(h2:md.ag.length<=16)(h3:(md.aJ.length:Int)≠0):M.m6 md=decide (sum<=2048):=by
 have ha:=h.all;have he:=h.eq;rw[jo] at ha he;have h4:md.aJ≠[]:=by intro e;rw[e] at h3;simp at h3
 unfold M.m6;rw[ha,he];have h5:md.aJ.isEmpty=false:=by simp[h4]
 rw[h5,show decide (24<md.au.length)=false from by simp;omega,show decide (16<md.ag.length)=false from by simp;omega];simp
theorem PX{md:M.Md}(h:24<md.au.length\/16<md.ag.length\/md.aJ.length=0):M.m6 md=false:=by
 have:(decide (24<md.au.length)||decide (16<md.ag.length)||md.aJ.isEmpty)=true:=by
  rcases h with h|h|h
  ·simp[h]
  ·simp[h]
  ·have:md.aJ=[]:=List.eq_nil_of_length_eq_zero h
   simp[this]
 simp only[M.m6,this]
 rfl
theorem ahA(m:Nat)(md:M.Md)(w:World)(h:cN w m md)(hw:lK md) :
  Calls prog 88 #[.pointer (some ⟨m,0,none⟩)] w fun e w'=>e=.returned (.bool (M.m6 md))/\w.grownBy w' none:=by
 have iq:=hw.nt;have j9:=hw.no;have By:=hw.nu;have hM:=h;obtain⟨a1,c1,a2,c2,a3,c3,hB,hT,hO,hU⟩:=h;have q0:w.cell? ⟨m,0,none⟩=some (.slice a1 md.au.length c1):=hB.cell 0;have q1:w.cell? ⟨m,1,none⟩=some (.slice a2 md.ag.length c2):=hB.cell 1;have q2:w.cell? ⟨m,2,none⟩=some (.slice a3 md.aJ.length c3):=hB.cell 2;have pX:=hB.lt;clear hB hO hU;by_cases g1:24<md.au.length
 ·have He:=ae (PX (.inl g1))
  clear hT;go_enter func88,ntmps88;go_wp2;go_ret;exact⟨bq He.out.symm,gL _ _⟩
 ·by_cases g2:16<md.ag.length
  ·have He:=ae (PX (.inr (.inl g2)))
   clear hT;go_enter func88,ntmps88;go_wp2;go_ret;exact⟨bq He.out.symm,gL _ _⟩
  ·by_cases g3:md.aJ.length=0
   ·have He:=ae (PX (.inr (.inr g3)))
    clear hT;have Dz:((md.aJ.length:Int)==0)=true:=by simp[g3]
    clear g3;go_enter func88,ntmps88;go_wp2;go_ret;exact⟨bq He.out.symm,gL _ _⟩
   ·have Dz:((md.aJ.length:Int)==0)=false:=by simp[g3]
    have VY:(md.aJ.length:Int)≠0:=by omega
    have G3n:=ae VY;clear g3 VY;have ry:md.au.length<=24:=by omega
    have wW:md.ag.length<=16:=by omega
    clear g1 g2;go_enter func88,ntmps88;go_wp2;go_loopw[34,3] (fun i v wr=>∃(k:Nat) (sum:Int),k<=md.au.length/\i=.int .i64 k/\v=.int .i64 sum/\Bx md.au k sum/\w.grownBy wr none) (fun i _ _=>md.au.length-(intOf i).toNat)
    case atStart=>exact⟨0,0,bK _,rfl,rfl,⟨by simp[M.sumTo],by omega,by simp,by simp⟩,gL _ _⟩
    case round=>
     obtain⟨k,sum,hk,rfl,rfl,hL,aF⟩:=hrel;by_cases aK:k<md.au.length
     ·obtain⟨t,ht⟩:∃t,md.au[k]?=some t:=⟨_,aT aK⟩
      obtain⟨g,ao,m',cp,rfl,-,-,-,d0,d1,d2,d3,d4,d5⟩:=(hT.Z aF).get k t ht;have gN:g<wr.heap.size:=pY wr _ d0;have wt:=hw.ts t (bV ht);obtain⟨m0,m1,n0,n1⟩:=wT wt.h0 wt.h1 wt.w0 wt.w1 wt.c0 wt.c1;have l0:=hL.lo;have l1:=hL.hi;have Ht:=ae ht;have HL:=ae hL;clear ht hL hT q0 q1 q2;go_wp2_with fail;refine(Lm t.af t.h t.w t.c t.zero _ _ wt.h0 wt.h1 wt.w0 wt.w1 wt.c0 wt.c1).mono ?_;rintro e w3⟨rfl,aU⟩;have iA:aj w3 wr.heap.size 106 (t6 t.af t.h t.w t.c t.zero (.slice ao m' cp)):=(aj.bB wr 106 _).kept aU (by simp);have e0:w3.cell? ⟨wr.heap.size,0,none⟩=some (.int .i64 t.af):=iA.cell 0;have jz:w.grownBy w3 none:=aC aF (aC (aQ _ _ _) aU);clear iA aU aF d0 d1 d2 d3 d4 d5;have VZ:t.h*t.w*t.c=M.cellsOf t:=rfl;have V0:part t=if t.af=0\/t.af=3 then M.cellsOf t else 0:=rfl;rw[VZ] at n0 n1 ⊢;clear VZ;have PY:=ae V0;clear V0;generalize Lz:M.cellsOf t=c at *;have LA:=ae Lz;clear Lz;by_cases j1:c<1
      ·go_wp2
       go_ret;exact⟨bq (VX Ht.out (.inl (by rw[LA.out];exact j1))).symm,jz⟩
      ·by_cases j2:512<c
       ·go_wp2
        go_ret;exact⟨bq (VX Ht.out (.inr (by rw[LA.out];exact j2))).symm,jz⟩
       ·have V4:=Bx.step HL.out Ht.out (by rw[LA.out];omega) (by rw[LA.out];omega)
        have PZ:=ae V4;clear V4;by_cases k0:t.af=0
        ·have E0:(t.af==0)=true:=by simp[k0]
         have Hk:=ae (show part t=c by rw[PY.out,ay (.inl k0)]);clear k0;go_wp2;go_roundw
         case rel=>exact⟨k+1,sum+c,by omega,by go_num,rfl,by have:=PZ.out;rw[Hk.out] at this;exact this,jz⟩
         case measure=>simp[intOf];omega
        ·have E0:(t.af==0)=false:=by simp[k0]
         by_cases k3:t.af=3
         ·have E1:(t.af==3)=true:=by simp[k3]
          have Hk:=ae (show part t=c by rw[PY.out,ay (.inr k3)]);clear k0 k3;go_wp2;go_roundw
          case rel=>exact⟨k+1,sum+c,by omega,by go_num,rfl,by have:=PZ.out;rw[Hk.out] at this;exact this,jz⟩
          case measure=>simp[intOf];omega
         ·have E1:(t.af==3)=false:=by simp[k3]
          have Hk:=ae (show part t=0 by rw[PY.out,ak (by omega)]);clear k0 k3;go_wp2;go_roundw
          case rel=>exact⟨k+1,sum,by omega,by go_num,rfl,by have:=PZ.out;rw[Hk.out,Int.add_zero] at this;exact this,jz⟩
          case measure=>simp[intOf];omega
     ·obtain rfl:k=md.au.length:=by omega
      have GZ:=ahz hL ry wW G3n.out;have LB:=ae GZ;clear GZ hL hT;go_wp2;go_ret;exact⟨bq LB.out.symm,aF⟩
end Go.Proofs.YtcnhfffgbamonabGreat
