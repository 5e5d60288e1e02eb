import Derived.Test.YtcnhfffgbamonaaGreatZ15
set_option maxRecDepth 100000
set_option maxHeartbeats 6400000
namespace Go.Proofs.YtcnhfffgbamonaaGreat
open Go.Proofs.Tryz
open Go.RowKit
structure JI(w0 w1:World)(o:M.Op)(sv:Value)(cs rs:Array Value):Prop where
 g:w0.grownBy w1 none
 A:aj w1 w0.heap.size 142 cs
 B:aj w1 (w0.heap.size+1) 142 (oo o sv)
 R:aj w1 (w0.heap.size+2) 142 rs
theorem JI.call{w0 w1 w2:World}{o:M.Op}{sv:Value}{cs rs:Array Value}(h:JI w0 w1 o sv cs rs)(hg:w1.grownBy w2 none):JI w0 w2 o sv cs rs:=
 ⟨aC h.g hg,h.A.kept hg (by simp),h.B.kept hg (by simp),h.R.kept hg (by simp)⟩
theorem JI.put{w0 w1:World}{o:M.Op}{sv:Value}{cs rs:Array Value}(h:JI w0 w1 o sv cs rs)(i:Nat)(v:Value):JI w0 (w1.setCell ⟨w0.heap.size,i,none⟩ v) o sv (cs.setIfInBounds i v) rs:=
 ⟨dF h.g (bD _ _ _ _) (bj _),h.A.set i v,h.B.kept (bD _ _ _ _) (by simp),h.R.kept (bD _ _ _ _) (by simp)⟩
theorem JI.start(w:World)(s o:M.Op)(us sv:Value)(z:Array Value):JI w (((w.alloc (.cells (oo s us) 142)).alloc (.cells (oo o sv) 142)).alloc (.cells z 142)) o sv (oo s us) z:=by
 refine⟨aC (nZ _ _ _ _) (aQ _ _ _),?_,?_,?_⟩
 ·exact((aj.bA w 142 (oo s us)).alloc _).alloc _
 ·exact(aj.yA w _ 142 (oo o sv)).alloc _
 ·have h:=aj.bA ((w.alloc (.cells (oo s us) 142)).alloc (.cells (oo o sv) 142)) 142 z
  simpa using h
theorem amO(s o:M.Op)(sa ao:Option Addr)(ps cs p c:Nat)(w:World) :
  Calls prog 147 #[.agg (aO s (.slice sa ps cs)),.agg (aO o (.slice ao p c))] w fun e w'=>e=.returned (.agg (aO (H.eV s o) (.slice sa ps cs)))/\w.grownBy w' none:=by
 show Calls prog 147 #[.agg (oo s (.slice sa ps cs)),.agg (oo o (.slice ao p c))] w _;have He:Hid (aO (H.eV s o) (.slice sa ps cs)=aR s.af s.a s.b s.aP s.bC o.to s.size s.aE s.same (.slice sa ps cs) (R.cW s.lo o.lo o.hi) (R.cW s.hi o.lo o.hi) s.aT s.below s.left s.right):=rfl;have I0:=ae (JI.start w { s with to:=o.to } o (.slice sa ps cs) (.slice ao p c) (aR 0 0 0 0 0 0 0 0 false (.slice none 0 0) 0 0 0 0 0 0));go_enter func147,ntmps147;go_wp2_with fail;refine(YQ s.lo o ao p c _).mono ?_;rintro e w1⟨rfl,aH⟩;have I1:Hid (JI w w1 o (.slice ao p c) (aR s.af s.a s.b s.aP s.bC o.to s.size s.aE s.same (.slice sa ps cs) s.lo s.hi s.aT s.below s.left s.right) (aR 0 0 0 0 0 0 0 0 false (.slice none 0 0) 0 0 0 0 0 0)):=I0.out.call aH;clear aH I0;generalize R.cW s.lo o.lo o.hi=x1 at *;obtain⟨k0,k1,k2,k3,k4,k5,k6,k7,k8,k9,AD,yU,AE,AF,AG,AH⟩:=dS I1.out.A;have FP:=I1.out.A.free 10;have I2:Hid (JI w (w1.setCell ⟨w.heap.size,10,none⟩ (.int .i64 x1)) o (.slice ao p c) (aR s.af s.a s.b s.aP s.bC o.to s.size s.aE s.same (.slice sa ps cs) x1 s.hi s.aT s.below s.left s.right) (aR 0 0 0 0 0 0 0 0 false (.slice none 0 0) 0 0 0 0 0 0)):=I1.out.put 10 (.int .i64 x1);clear k0 k1 k2 k3 k4 k5 k6 k7 k8 k9 AE AF AG AH I1;go_wp2_with (refine dj rfl 142 _ rfl (w.heap.size+1) rfl 142 (oo o (.slice ao p c)) (0,0) _ I2.out.B underlying142 rfl Tryz.de ?_);refine(YQ s.hi o ao p c _).mono ?_;rintro e w2⟨rfl,aM⟩;have I3:Hid (JI w w2 o (.slice ao p c) (aR s.af s.a s.b s.aP s.bC o.to s.size s.aE s.same (.slice sa ps cs) x1 s.hi s.aT s.below s.left s.right) (aR 0 0 0 0 0 0 0 0 false (.slice none 0 0) 0 0 0 0 0 0)):=I2.out.call aM;clear aM I2 AD yU FP;generalize R.cW s.hi o.lo o.hi=x2 at *;have yU:w2.cell? ⟨w.heap.size,11,none⟩=some (.int .i64 s.hi):=I3.out.A.cell 11;have Em:=I3.out.A.free 11
 have I4:Hid (JI w (w2.setCell ⟨w.heap.size,11,none⟩ (.int .i64 x2)) o (.slice ao p c) (aR s.af s.a s.b s.aP s.bC o.to s.size s.aE s.same (.slice sa ps cs) x1 x2 s.aT s.below s.left s.right) (aR 0 0 0 0 0 0 0 0 false (.slice none 0 0) 0 0 0 0 0 0)):=I3.out.put 11 (.int .i64 x2);clear I3;go_wp2_with (first|(refine dj rfl 142 _ rfl w.heap.size rfl 142 (aR s.af s.a s.b s.aP s.bC o.to s.size s.aE s.same (.slice sa ps cs) x1 x2 s.aT s.below s.left s.right) (0,0) _ I4.out.A underlying142 rfl Tryz.de ?_;generalize w2.setCell ⟨w.heap.size,11,none⟩ (.int .i64 x2)=w3 at *)|(refine aaY rfl 142 _ _ rfl (w.heap.size+2) (aR s.af s.a s.b s.aP s.bC o.to s.size s.aE s.same (.slice sa ps cs) x1 x2 s.aT s.below s.left s.right) rfl rfl 142 (aR 0 0 0 0 0 0 0 0 false (.slice none 0 0) 0 0 0 0 0 0) I4.out.R Tryz.de rfl (oe ..) ?_));have hR:aj (w3.setRow (w.heap.size+2) (aR s.af s.a s.b s.aP s.bC o.to s.size s.aE s.same (.slice sa ps cs) x1 x2 s.aT s.below s.left s.right)) (w.heap.size+2) 142 (aR s.af s.a s.b s.aP s.bC o.to s.size s.aE s.same (.slice sa ps cs) x1 x2 s.aT s.below s.left s.right):=setRow_heap _ _ _ _ _ _ I4.out.R;refine bodyPost_ret (v:=.agg (aR s.af s.a s.b s.aP s.bC o.to s.size s.aE s.same (.slice sa ps cs) x1 x2 s.aT s.below s.left s.right)) ?hr rfl ?_
 case hr=>exact results_cell_row Tryz.results147 _ _ (w.heap.size+2) 142 _ (0,0) _ rfl hR underlying142 rfl Tryz.de
 exact⟨by rw[He.out],dF I4.out.g (vB _ _ _) (by omega)⟩
def R6(x:Option Nat):Int:=match x with
 | some i=>(i:Int)
 | none=>-1
theorem amP{m:M.Md}{left:List M.Op}{o:M.Op}(h:o.af≠7):H.oy m left o=none:=by unfold H.oy;rw[ak fun c=>h c.1]
theorem amQ{m:M.Md}{left:List M.Op}{o s:M.Op}{k:Nat}(h7:o.af=7)(hu:H.cJ m o.a=1)(hs:left[k]?=some s)(hp:H.vK o s=true)(hb:∀(j:Nat) t,j<k->left[j]?=some t->H.vK o t=false):H.oy m left o=some k:=by
 unfold H.oy;rw[ay ⟨h7,hu⟩,List.findIdx?_eq_some_iff_getElem];have hl:=M.bP hs;refine⟨hl,?_,fun j hj=>?_⟩
 ·rw[aS hl] at hs;injection hs with hs;rw[hs];exact hp
 ·have:=hb j left[j] hj (aS (by omega))
  rw[this];decide
theorem amR{m:M.Md}{left:List M.Op}{o:M.Op}(h:H.cJ m o.a=1->∀(j:Nat) t,left[j]?=some t->H.vK o t=false):H.oy m left o=none:=by
 unfold H.oy
 split
 ·rename_i c
  rw[List.findIdx?_eq_none_iff];intro t ht;obtain⟨j,hj⟩:=mQ ht;exact h c.2 j t hj
 ·rfl
theorem amS(m:Nat)(md:M.Md)(B:Nat)(a:Option Addr)(n c:Nat)(left:List M.Op)(o:M.Op)(ao:Option Addr)(p cp:Nat)(w:World)(h:cN w m md)(hO:jl w B (.slice a n c) left)(iq:md.ag.length<=255)(kl:md.aK.length<=255)(BN:left.length<=255) :
  Calls prog 146 #[.pointer (some ⟨m,0,none⟩),.slice a n c,.agg (aO o (.slice ao p cp))] w fun e w'=>e=.returned (.int .i64 (R6 (H.oy md left o)))/\w.grownBy w' none:=by
 obtain rfl:=hO.len;have N0:=ae (aj.bA w 142 (oo o (.slice ao p cp)));have G0:=ae (aQ w (.cells (oo o (.slice ao p cp)) 142) none);have HO:=ae hO;show Calls prog 146 #[.pointer (some ⟨m,0,none⟩),.slice a left.length c,.agg (oo o (.slice ao p cp))] w _;by_cases h7:o.af=7
 ·have h7':(o.af !=7)=false:=by simp[h7]
  have H7:=ae h7;have HC:=ae (RQ m md o.a _ (h.Z G0.out) iq kl);clear h7 h hO;go_enter func146,ntmps146;go_wp2_with fail;refine HC.out.mono ?_;rintro e w1⟨rfl,aH⟩;have dN:=ae (aC G0.out aH);have N1:=ae (N0.out.kept aH (by simp));clear aH N0 G0 HC;obtain⟨un,R7⟩:∃un,Hid (H.cJ md o.a=un):=⟨_,rfl⟩;rw[R7.out];go_wp2;go_loopw[20] (fun i wr=>∃k:Nat,k<=left.length/\i=.int .i64 k/\Hid (un=1->∀(j:Nat) t,j<k->left[j]?=some t->H.vK o t=false)/\aj wr w.heap.size 142 (oo o (.slice ao p cp))/\w.grownBy wr none) (fun i _=>left.length-(intOf i).toNat)
  case atStart=>exact⟨0,bK _,rfl,fun _ j t hj=>aN hj (by omega),N1.out,dN.out⟩
  case round=>
   obtain⟨k,hk,rfl,jY,bV,aF⟩:=hrel;have eK:=ae bV;have bH:=ae aF;clear N1 dN bV;by_cases aJ:k<left.length
   ·obtain⟨s,hs⟩:∃s,left[k]?=some s:=⟨_,aS aJ⟩
    obtain⟨g,sa,sp,sc,rfl,gQ,-,tr,hR⟩:=(HO.out.Z aF).get k s hs;have lC:=ae (aj.bA wr 142 (aO s (.slice sa sp sc)));have dU:=ae (aQ wr (.cells (aO s (.slice sa sp sc)) 142) none);have Hs:=ae hs;clear hs tr aF;go_wp2_with (first|(refine wpList_load_mid rfl 142 _ rfl g (k*16) rfl (aO s (.slice sa sp sc)).toList _ hR underlying142 rfl Tryz.de ?_)|(refine aaY rfl 142 _ _ rfl wr.heap.size (aO s (.slice sa sp sc)) rfl rfl 142 (aR 0 0 0 0 0 0 0 0 false (.slice none 0 0) 0 0 0 0 0 0) (aj.bA wr 142 _) Tryz.de rfl (oe ..) ?_;rw[World.setRow_alloc_new];generalize wr.alloc (.cells (aO s (.slice sa sp sc)) 142)=w3 at *)|(refine dj rfl 142 _ rfl wr.heap.size rfl 142 (aO s (.slice sa sp sc)) (0,0) _ lC.out underlying142 rfl Tryz.de ?_));refine(vA s.af _ _ _ _ _ _ _ _ _ _ _ _ _ _ _ (H.te s) _ rfl).mono ?_;rintro e w4⟨rfl,bm⟩;have fC:=ae (aC dU.out bm);have s5:w4.cell? ⟨wr.heap.size,5,none⟩=some (.int .i64 s.to):=(lC.out.kept bm (by simp)).cell 5;have iS:=ae (eK.out.kept fC.out (by simp));have o1:w4.cell? ⟨w.heap.size,1,none⟩=some (.int .i64 o.a):=iS.out.cell 1;have uE:=ae (aC bH.out fC.out);clear bm hR lC;have oD:Hid ((un=1->H.vK o s=false)->un=1->∀(j:Nat) t,j<k+1->left[j]?=some t->H.vK o t=false):=fun hh h1 j t hj ht=>by
     rcases cE j k with h' | h'
     ·exact jY.out h1 j t h' ht
     ·obtain rfl:j=k:=by omega
      rw[Hs.out] at ht;injection ht with ht;rw[<-ht];exact hh h1
    by_cases jG:un=1
    ·have amU:((un:Int)==1)=true:=by simp[jG]
     cases hr:H.te s with
     | true=>
      by_cases uF:s.to=o.a
      ·have R8:(s.to==o.a)=true:=by simp[uF]
       have HE:=ae (amQ H7.out (by rw[R7.out];exact jG) Hs.out (by unfold H.vK;rw[hr,R8];rfl) (jY.out jG));clear jG hr uF;go_wp2;go_ret;exact⟨cH (by rw[HE.out];rfl),uE.out⟩
      ·have R8:(s.to==o.a)=false:=by simp[uF]
       have HN:=ae (oD.out fun _=>by unfold H.vK;rw[R8,Bool.and_false]);clear jG hr uF;go_wp2;go_roundw
       case rel=>exact⟨k+1,by omega,by go_num,HN.out,iS.out,uE.out⟩
       case measure=>simp[intOf];omega
     | false=>
      have HN:=ae (oD.out fun _=>by unfold H.vK;rw[hr,Bool.false_and]);clear jG hr;go_wp2;go_roundw
      case rel=>exact⟨k+1,by omega,by go_num,HN.out,iS.out,uE.out⟩
      case measure=>simp[intOf];omega
    ·have amU:((un:Int)==1)=false:=by simp;omega
     have HN:=ae (oD.out fun h=>aN h jG);clear jG;go_wp2;go_roundw
     case rel=>exact⟨k+1,by omega,by go_num,HN.out,iS.out,uE.out⟩
     case measure=>simp[intOf];omega
   ·obtain rfl:k=left.length:=by omega
    have HE:=ae (amR (m:=md) (left:=left) (o:=o) fun h1 j t ht=>jY.out (by rw[<-R7.out];exact h1) j t (M.bP ht) ht);clear aF;go_wp2;go_ret;exact⟨cH (by rw[HE.out];rfl),bH.out⟩
 ·have h7':(o.af !=7)=true:=by simp[h7]
  have HE:=ae (amP (m:=md) (left:=left) h7);clear h7 h hO;go_enter func146,ntmps146;go_wp2;go_ret;exact⟨cH (by rw[HE.out];rfl),G0.out⟩
end Go.Proofs.YtcnhfffgbamonaaGreat
