import Derived.Test.YtcnhfffgbamonabGreatZ24
import Derived.Test.YtcnhfffgbamonabGreatZ25
import Derived.Test.YtcnhfffgbamonabGreatZ53
set_option maxRecDepth 100000
set_option maxHeartbeats 6400000
namespace Go.Proofs.YtcnhfffgbamonabGreat
open Go.Proofs.Tryz
open Go.RowKit
def nL(B C:Nat)(w w':World):Prop:=∀k,B<=k->k<C->w'.heap[k]?=w.heap[k]?
theorem nL.refl(B C:Nat)(w:World):nL B C w w:=fun _ _ _=>rfl
theorem nL.trans{B C:Nat}{w w' qM:World}(h:nL B C w w')(k:nL B C w' qM):nL B C w qM:=fun i h0 h1=>(k i h0 h1).trans (h i h0 h1)
theorem Fr.gZ{S:Nat->Prop}{w w':World}{B C:Nat}(h:Fr S w w')(hC:C<=w.heap.size)(hS:∀k,S k->¬(B<=k/\k<C)):nL B C w w':=fun k h0 h1=>h.block k (by omega) (fun hs=>hS k hs ⟨h0,h1⟩)
theorem zt{w w':World}{B C:Nat}(h:w.grownBy w' none)(hC:C<=w.heap.size):nL B C w w':=fun k h0 h1=>h.block k (by omega) (by simp)
theorem uL{w w':World}{base B C size n:Nat}{e:TypeId}{v:Value}{xs:List Value}(ho:w.ownsRow base e size v n xs)(hb:B<=base)(hC:w.heap.size<=C)(h:nL B C w w'):w'.ownsRow base e size v n xs:=
 FD ho hb (fun k h0 h1=>h k h0 (by omega))
theorem TJ{w w':World}{B C b:Nat}{t:TypeId}{cs:Array Value}(hB:aj w b t cs)(hb:B<=b)(hC:w.heap.size<=C)(h:nL B C w w'):aj w' b t cs:=by
 have hl:=hB.lt;unfold aj at hB ⊢;rw[h b hb (by omega)];exact hB
theorem aq5{w w':World}{B C m:Nat}{md:M.Md}(hM:cN w m md)(hb:B<=m)(hC:w.heap.size<=C)(h:nL B C w w'):cN w' m md:=by
 obtain⟨a1,c1,a2,c2,a3,c3,h1,⟨ps,p1,p2,p3⟩,⟨qs,q1,q2,q3⟩,h4⟩:=hM;exact⟨a1,c1,a2,c2,a3,c3,TJ h1 hb hC h,⟨ps,p1,uL p2 (by omega) hC h,fun p hp=>uL (p3 p hp) (by omega) hC h⟩,⟨qs,q1,uL q2 (by omega) hC h,fun p hp=>uL (q3 p hp) (by omega) hC h⟩,uL h4 (by omega) hC h⟩
def zu(w:World)(B C p:Nat)(md:M.Md):Prop:=∀w',nL B C w w'->Pl w' p md
theorem zu.pl{w:World}{B C p:Nat}{md:M.Md}(h:zu w B C p md):Pl w p md:=h w (nL.refl _ _ _)
theorem zu.gZ{w w':World}{B C p:Nat}{md:M.Md}(h:zu w B C p md)(k:nL B C w w'):zu w' B C p md:=fun qM xX=>h qM (k.trans xX)
theorem xy.ED{w:World}{B p:Nat}{md:M.Md}(h:xy w B p md):zu w B w.heap.size p md:=fun w' hs=>by
 obtain⟨m,an,cn,ab,cb,b1,b2,h1,h2,h3,h4,h5,h6⟩:=h;exact⟨m,an,cn,ab,cb,bK _,bK _,TJ h1 b1 (bj _) hs,aq5 h2 b2 (bj _) hs,(show aZ w' B _ _ from uL h3 (bj _) (bj _) hs).mono (bK _),m9 (uL h4 (bj _) (bj _) hs) (bK _),h5,h6⟩
def xY(w:World)(B C b:Nat)(g:R.bX):Prop:=∀w',nL B C w w'->lB w' b g
theorem xY.Ks{w:World}{B C b:Nat}{g:R.bX}(h:xY w B C b g):lB w b g:=h w (nL.refl _ _ _)
theorem xY.gZ{w w':World}{B C b:Nat}{g:R.bX}(h:xY w B C b g)(k:nL B C w w'):xY w' B C b g:=fun qM xX=>h qM (k.trans xX)
theorem lB.aq6{w:World}{B b:Nat}{g:R.bX}(h:lB w b g)(hb:B<=b):xY w B w.heap.size b g:=fun w' hs=>by
 obtain⟨a1,c1,a2,c2,a3,c3,h1,⟨ps,p1,p2,p3⟩,⟨qs,q1,q2,q3⟩,h4⟩:=h;exact⟨a1,c1,a2,c2,a3,c3,TJ h1 hb (bj _) hs,⟨ps,p1,uL p2 (by omega) (bj _) hs,fun p hp=>uL (p3 p hp) (by omega) (bj _) hs⟩,⟨qs,q1,uL q2 (by omega) (bj _) hs,fun p hp=>⟨uL (q3 p hp).1 (by omega) (bj _) hs,uL (q3 p hp).2 (by omega) (bj _) hs⟩⟩,uL h4 (by omega) (bj _) hs⟩
structure A6(w:World)(lo g0 G:Nat)(gs:List Nat)(g2 g3:Nat)(bs:List H.Bf)(ss:List Sp)(is us:List Int):Prop where
 b:aj w g0 116 (bs.flatMap gj).toArray
 s:∃B,mo w B G gs ss
 i:aj w g2 3 (is.map (Value.int .i64)).toArray
 o:aj w g3 3 (us.map (Value.int .i64)).toArray
 l0:lo<=g0
 l1:g0<G
 l2:∀g∈gs,g<g2
 l3:G<g2
 l4:g2<g3
theorem A6.Z{w w':World}{lo g0 G:Nat}{gs:List Nat}{g2 g3:Nat}{bs:List H.Bf}{ss:List Sp}{is us:List Int}(h:A6 w lo g0 G gs g2 g3 bs ss is us)(hg:w.grownBy w' none):A6 w' lo g0 G gs g2 g3 bs ss is us:=by
 obtain⟨h1,⟨B,h2⟩,h3,h4,r0,r1,r2,r3,r4⟩:=h;exact⟨h1.kept hg (by simp),⟨B,h2.Z hg⟩,h3.kept hg (by simp),h4.kept hg (by simp),r0,r1,r2,r3,r4⟩
abbrev nM(g0 G g2 g3:Nat)(bs:List H.Bf)(ss:List Sp)(is us:List Int):Array Value:=#[.slice (some ⟨g0,0,none⟩) bs.length bs.length,.slice (some ⟨G,0,none⟩) ss.length ss.length,.slice (some ⟨g2,0,none⟩) is.length is.length,.slice (some ⟨g3,0,none⟩) us.length us.length,.int .i64 0]
def se(md:M.Md):List Int:=(List.range (gk md.au).length).map fun i:Nat=>(i:Int)
def wF(md:M.Md):List Int:=(pM md).aJ.map (iX md)
theorem aq7(p:Nat)(md:M.Md)(w:World)(hP:Pl w p md)(hn:(pB md).length<=1000) :
  Calls prog 74 #[.pointer (some ⟨p,0,none⟩)] w fun e w'=>(∃g0 G gs g2 g3,e=.returned (.agg (nM g0 G g2 g3 (pB md) (lQ md) (se md) (wF md)))/\A6 w' w.heap.size g0 G gs g2 g3 (pB md) (lQ md) (se md) (wF md))/\w.grownBy w' none:=
 (an5 p md w hP hn).mono fun e w' ⟨g0,G,gs,g2,g3,he,h0,h1,h2,h3,h4,b0,s0,i0,o0,hg⟩=>by
  have e1:(lQ md).length=(pM md).ag.length:=by unfold lQ;rw[jh]
  have e2:(se md).length=(gk md.au).length:=by unfold se;simp
  exact⟨⟨g0,G,gs,g2,g3,by rw[he];unfold nM dg wF;rw[e1,e2],⟨b0,⟨_,s0⟩,i0,o0,h0,h1,h2,h3,h4⟩⟩,hg⟩
theorem OG{md:M.Md}(h:O.iN md):T.NK (pB md).length (lQ md) (se md) (wF md)/\T.NT (T.ux (pB md).length (lQ md) (se md) (wF md)) (pB md) (H.gR (pB md))/\T.NU (lQ md) (wF md) /\
  (pB md).length<=100/\(lQ md).length<=md.ag.length/\md.ag.length<=16/\(se md).length=(gk md.au).length/\(se md).length<=24/\(wF md).length=md.aJ.length/\(wF md).length<=255/\(∀s∈lQ md,s.bS.length<=1000):=by
 have ok:=T.aoe h;have P:=AD h;have e1:(pB md).length=H.fN (H.jD md)+(H.jD md).ag.length:=ok.len;have e2:se md=T.ins (H.jD md):=by unfold se T.ins;rw[<-Cp h];rfl
 have e3:lQ md=T.gS (H.jD md):=rfl;have e4:wF md=T.aJ (H.jD md):=rfl;refine⟨?_,?_,ok.fu,P.2.2.1,?_,h.no,by unfold se;simp,?_,?_,?_,?_⟩
 ·rw[e1,e2];exact ok.lv
 ·rw[e1,e2,e3,e4];exact ok.ar
 ·unfold lQ;rw[jh];exact T.aoc md
 ·have:(se md).length=(gk md.au).length:=by unfold se;simp
  rw[this,<-Cp h];exact P.2.2.2.2
 ·unfold wF;rw[jh,show(pM md).aJ=md.aJ from H.MC md]
 ·unfold wF;rw[jh,show(pM md).aJ=md.aJ from H.MC md];exact h.dQ.nu
 ·intro s hs
  unfold lQ at hs;obtain⟨o,-,rfl⟩:=List.mem_map.mp hs;show((H.cM o).map _).length<=1000;rw[jh];unfold H.cM
  split<;>(try split)<;>simp
end Go.Proofs.YtcnhfffgbamonabGreat
