import Derived.Test.YtcnhfffgbamonaaGreatZ24
import Derived.Test.YtcnhfffgbamonaaGreatZ25
import Derived.Test.YtcnhfffgbamonaaGreatZ53
namespace Go.Proofs.YtcnhfffgbamonaaGreat
open Go.Proofs.Tryz
open RowKit
def nT(B C:Nat)(w w':World):Prop:=∀k,B<=k->k<C->w'.heap[k]?=w.heap[k]?
theorem nT.refl(B C:Nat)(w:World):nT B C w w:=fun _ _ _=>rfl
theorem nT.trans{B C:Nat}{w w' qY:World}(h:nT B C w w')(k:nT B C w' qY):nT B C w qY:=fun i h0 h1=>(k i h0 h1).trans (h i h0 h1)
theorem Fr.hZ{S:Nat->Prop}{w w':World}{B C:Nat}(h:Fr S w w')(hC:C<=w.heap.size)(hS:∀k,S k->¬(B<=k/\k<C)):nT B C w w':=fun k h0 h1=>h.block k (by omega) (fun hs=>hS k hs ⟨h0,h1⟩)
theorem zO{w w':World}{B C:Nat}(h:w.grownBy w' none)(hC:C<=w.heap.size):nT B C w w':=fun k h0 h1=>h.block k (by omega) (by simp)
theorem uX{w w':World}{base B C size n:Nat}{e:TypeId}{v:Value}{xs:List Value}(ho:w.ownsRow base e size v n xs)(hb:B<=base)(hC:w.heap.size<=C)(h:nT B C w w'):w'.ownsRow base e size v n xs:=
 Gc ho hb (fun k h0 h1=>h k h0 (by omega))
theorem Um{w w':World}{B C b:Nat}{t:TypeId}{cs:Array Value}(hB:aj w b t cs)(hb:B<=b)(hC:w.heap.size<=C)(h:nT B C w w'):aj w' b t cs:=by
 have hl:=hB.lt;unfold aj at hB ⊢;rw[h b hb (by omega)];exact hB
theorem asb{w w':World}{B C m:Nat}{md:M.Md}(hM:cN w m md)(hb:B<=m)(hC:w.heap.size<=C)(h:nT B C w w'):cN w' m md:=by
 obtain⟨a1,c1,a2,c2,a3,c3,h1,⟨ps,p1,p2,p3⟩,⟨qs,q1,q2,q3⟩,h4⟩:=hM;exact⟨a1,c1,a2,c2,a3,c3,Um h1 hb hC h,⟨ps,p1,uX p2 (by omega) hC h,fun p hp=>uX (p3 p hp) (by omega) hC h⟩,⟨qs,q1,uX q2 (by omega) hC h,fun p hp=>uX (q3 p hp) (by omega) hC h⟩,uX h4 (by omega) hC h⟩
def zP(w:World)(B C p:Nat)(md:M.Md):Prop:=∀w',nT B C w w'->Pl w' p md
theorem zP.pl{w:World}{B C p:Nat}{md:M.Md}(h:zP w B C p md):Pl w p md:=h w (nT.refl _ _ _)
theorem zP.hZ{w w':World}{B C p:Nat}{md:M.Md}(h:zP w B C p md)(k:nT B C w w'):zP w' B C p md:=fun qY ym=>h qY (k.trans ym)
theorem xO.EY{w:World}{B p:Nat}{md:M.Md}(h:xO w B p md):zP w B w.heap.size p md:=fun w' hs=>by
 obtain⟨m,an,cn,ab,cb,b1,b2,h1,h2,h3,h4,h5,h6⟩:=h;exact⟨m,an,cn,ab,cb,bK _,bK _,Um h1 b1 (bj _) hs,asb h2 b2 (bj _) hs,(show aZ w' B _ _ from uX h3 (bj _) (bj _) hs).mono (bK _),nC (uX h4 (bj _) (bj _) hs) (bK _),h5,h6⟩
def yn(w:World)(B C b:Nat)(g:R.bX):Prop:=∀w',nT B C w w'->lF w' b g
theorem yn.KS{w:World}{B C b:Nat}{g:R.bX}(h:yn w B C b g):lF w b g:=h w (nT.refl _ _ _)
theorem yn.hZ{w w':World}{B C b:Nat}{g:R.bX}(h:yn w B C b g)(k:nT B C w w'):yn w' B C b g:=fun qY ym=>h qY (k.trans ym)
theorem lF.asc{w:World}{B b:Nat}{g:R.bX}(h:lF w b g)(hb:B<=b):yn w B w.heap.size b g:=fun w' hs=>by
 obtain⟨a1,c1,a2,c2,a3,c3,h1,⟨ps,p1,p2,p3⟩,⟨qs,q1,q2,q3⟩,h4⟩:=h;exact⟨a1,c1,a2,c2,a3,c3,Um h1 hb (bj _) hs,⟨ps,p1,uX p2 (by omega) (bj _) hs,fun p hp=>uX (p3 p hp) (by omega) (bj _) hs⟩,⟨qs,q1,uX q2 (by omega) (bj _) hs,fun p hp=>⟨uX (q3 p hp).1 (by omega) (bj _) hs,uX (q3 p hp).2 (by omega) (bj _) hs⟩⟩,uX h4 (by omega) (bj _) hs⟩
structure Bp(w:World)(lo g0 G:Nat)(gs:List Nat)(g2 g3:Nat)(bs:List H.Bf)(ss:List Sp)(is us:List Int):Prop where
 b:aj w g0 125 (bs.flatMap gm).toArray
 s:∃B,mA w B G gs ss
 i:aj w g2 3 (is.map (Value.int .i64)).toArray
 o:aj w g3 3 (us.map (Value.int .i64)).toArray
 l0:lo<=g0
 l1:g0<G
 l2:∀g∈gs,g<g2
 l3:G<g2
 l4:g2<g3
theorem Bp.Z{w w':World}{lo g0 G:Nat}{gs:List Nat}{g2 g3:Nat}{bs:List H.Bf}{ss:List Sp}{is us:List Int}(h:Bp w lo g0 G gs g2 g3 bs ss is us)(hg:w.grownBy w' none):Bp w' lo g0 G gs g2 g3 bs ss is us:=by
 obtain⟨h1,⟨B,h2⟩,h3,h4,r0,r1,r2,r3,r4⟩:=h;exact⟨h1.kept hg (by simp),⟨B,h2.Z hg⟩,h3.kept hg (by simp),h4.kept hg (by simp),r0,r1,r2,r3,r4⟩
abbrev nU(g0 G g2 g3:Nat)(bs:List H.Bf)(ss:List Sp)(is us:List Int):Array Value:=#[.slice (some ⟨g0,0,none⟩) bs.length bs.length,.slice (some ⟨G,0,none⟩) ss.length ss.length,.slice (some ⟨g2,0,none⟩) is.length is.length,.slice (some ⟨g3,0,none⟩) us.length us.length,.int .i64 0]
def sC(md:M.Md):List Int:=(List.range (gC md.au).length).map fun i:Nat=>(i:Int)
def wS(md:M.Md):List Int:=(pM md).aK.map (je md)
theorem asd(p:Nat)(md:M.Md)(w:World)(hP:Pl w p md)(hn:(pB md).length<=1000):
 Calls prog 74 #[.pointer (some ⟨p,0,none⟩)] w fun e w'=>(∃g0 G gs g2 g3,e=.returned (.agg (nU g0 G g2 g3 (pB md) (lT md) (sC md) (wS md)))/\Bp w' w.heap.size g0 G gs g2 g3 (pB md) (lT md) (sC md) (wS md))/\w.grownBy w' none:=
 (apc p md w hP hn).mono fun e w' ⟨g0,G,gs,g2,g3,he,h0,h1,h2,h3,h4,b0,s0,i0,o0,hg⟩=>by
  have e1:(lT md).length=(pM md).ag.length:=by unfold lT;rw[jb]
  have e2:(sC md).length=(gC md.au).length:=by unfold sC;simp
  exact⟨⟨g0,G,gs,g2,g3,by rw[he];unfold nU cT wS;rw[e1,e2],⟨b0,⟨_,s0⟩,i0,o0,h0,h1,h2,h3,h4⟩⟩,hg⟩
theorem Pf{md:M.Md}(h:O.iP md):T.Om (pB md).length (lT md) (sC md) (wS md)/\T.Ox (T.uJ (pB md).length (lT md) (sC md) (wS md)) (pB md) (H.gU (pB md))/\T.Oy (lT md) (wS md) /\
  (pB md).length<=100/\(lT md).length<=md.ag.length/\md.ag.length<=16/\(sC md).length=(gC md.au).length/\(sC md).length<=24/\(wS md).length=md.aK.length/\(wS md).length<=255/\(∀s∈lT md,s.bS.length<=1000):=by
 have ok:=T.apl h;have P:=AV h;have e1:(pB md).length=H.fO (H.jE md)+(H.jE md).ag.length:=ok.len;have e2:sC md=T.ins (H.jE md):=by unfold sC T.ins;rw[<-CF h];rfl
 have e3:lT md=T.gV (H.jE md):=rfl;have e4:wS md=T.aK (H.jE md):=rfl;refine⟨?_,?_,ok.fu,P.2.2.1,?_,h.no,by unfold sC;simp,?_,?_,?_,?_⟩
 ·rw[e1,e2];exact ok.lv
 ·rw[e1,e2,e3,e4];exact ok.ar
 ·unfold lT;rw[jb];exact T.apj md
 ·have:(sC md).length=(gC md.au).length:=by unfold sC;simp
  rw[this,<-CF h];exact P.2.2.2.2
 ·unfold wS;rw[jb,show(pM md).aK=md.aK from H.Nf md]
 ·unfold wS;rw[jb,show(pM md).aK=md.aK from H.Nf md];exact h.dQ.nu
 ·intro s hs
  unfold lT at hs;obtain⟨o,-,rfl⟩:=List.mem_map.mp hs;show((H.cM o).map _).length<=1000;rw[jb];unfold H.cM
  split<;>(try split)<;>simp
end Go.Proofs.YtcnhfffgbamonaaGreat
