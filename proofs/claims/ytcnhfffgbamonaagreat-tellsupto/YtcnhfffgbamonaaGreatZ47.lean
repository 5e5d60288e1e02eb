import Derived.Test.YtcnhfffgbamonaaGreatRows
import Derived.ProofKit
import Derived.OpenShut
import Derived.JoinedCond
import Derived.ChangeSlices
import Derived.Carry
import Derived.Test.YtcnhfffgbamonaaGreatZ46
import Derived.Test.YtcnhfffgbamonaaGreatZ43
set_option maxRecDepth 100000
set_option maxHeartbeats 6400000
namespace Go.Proofs.YtcnhfffgbamonaaGreat.call
open Go
section
variable {P:Program} {ag:Array Oper} {md:Region.Mode} {C:World->Prop} {w0 w1:World} {B:Nat}
def Y2(P:Program)(ag:Array Oper)(C:World->Prop)(w0 w1:World)(B i:Nat)(o:Oper)(v:Value)(a:Act):Prop:=
 (i=B/\Region.wanted o (yielded ag a.tmps)=true/\(execOp a.eval o).run P w0=.ok (.value v) w1) \/
 (i≠B/\((Region.wanted o (yielded ag a.tmps)=true/\∀w,C w->o.quietAt P a (fun qY=>qY=w) w v)\/(Region.wanted o (yielded ag a.tmps)=false/\v=undef)))
theorem Y2.Kq{i:Nat}{o:Oper}{v:Value}{a a':Act}(hy:Y2 P ag C w0 w1 B i o v a)(he:execOp a'.eval o=execOp a.eval o)
  (hw:Region.wanted o (yielded ag a'.tmps)=Region.wanted o (yielded ag a.tmps)):Y2 P ag C w0 w1 B i o v a':=by
 unfold Y2 Oper.quietAt at *;rw[he,hw];exact hy
def uM(P:Program)(ag:Array Oper)(C:World->Prop)(w0 w1:World)(B i:Nat)(K:Act->Prop)(a:Act):Prop:=
 ∃o v,ag[i]?=some o/\Y2 P ag C w0 w1 B i o v a/\K (a.put o.dst v)
theorem Tq{i:Nat}{a:Act}{K K':Act->Prop}(h:∀a,K a->K' a)(hh:uM P ag C w0 w1 B i K a):uM P ag C w0 w1 B i K' a:=by
 obtain⟨o,v,h1,h2,h3⟩:=hh;exact⟨o,v,h1,h2,h _ h3⟩
theorem Tr{i j:Nat}{oi oj:Oper}{v:Value}(hj:ag[j]?=some oj)(Kr:oi.apart ag oj=true)
  (Gi:∀cs b,oi.op≠.select cs b) (Tt:∀cs b,oj.op≠.select cs b) {K:Act->Prop} {a:Act}
  (hy:Y2 P ag C w0 w1 B i oi v a) (h:uM P ag C w0 w1 B j K (a.put oi.dst v)):
  uM P ag C w0 w1 B j (fun a'=>Y2 P ag C w0 w1 B i oi v a'/\K (a'.put oi.dst v)) a:=by
 obtain⟨h1,h2,h3⟩:=Oper.apart_spec Kr;obtain⟨o,u,ho,hu,hK⟩:=h;have:o=oj:=Option.some.inj (ho.symm.trans hj);subst this;refine⟨o,u,ho,hu.Kq (execOp_put o Tt a oi.dst v h1).symm (wanted_put o a oi.dst v h1).symm,hy.Kq (execOp_put oi Gi a o.dst u h3) (wanted_put oi a o.dst u h3),?_⟩;rw[<-Act.put_comm a v u h2];exact hK
def xZ(P:Program)(md:Region.Mode)(ag:Array Oper)(C:World->Prop)(w0 w1:World)(B n:Nat)(L:Array Bool->Act->Prop):Nat->Array Bool->Act->Prop
 |0,cS,a=>L cS a
 |f+1,cS,a=>
  Region.ready md ag cS≠[]/\∀i∈Region.ready md ag cS,i<n/\uM P ag C w0 w1 B i (xZ P md ag C w0 w1 B n L f (cS.setIfInBounds i true)) a
theorem Tu{n i:Nat}{oi:Oper}{v:Value}{L:Array Bool->Act->Prop}(hi:ag[i]?=some oi)(sy:∀(j:Nat) (o:Oper) cs b,ag[j]?=some o->o.op≠.select cs b)
  (hs:Region.sinkB md ag n=true) (hc:Region.chainB md ag n=true) (hn:n<ag.size) (cY:i<n)
  (Tv:∀cS a,L cS a->∀j∈Region.ready md ag cS,n<=j):
  ∀(f:Nat) (cS:Array Bool) (a:Act),HeadInv md ag n cS ->
   (∀j oj,ag[j]?=some oj->j≠i->cS.getD j true=false->(∀e∈oj.after,Region.binds md e=true->e.on≠i)->oi.apart ag oj=true) ->
   i∈Region.ready md ag cS->Y2 P ag C w0 w1 B i oi v a ->
   xZ P md ag C w0 w1 B n L f (cS.setIfInBounds i true) (a.put oi.dst v)->xZ P md ag C w0 w1 B n L (f+1) cS a:=by
 intro f
 induction f with
 |zero=>
  intro cS a qz _ hr hy H;have jG:=(mem_ready.1 hr).1;refine⟨fun h=>(by rw[h] at hr;cases hr),fun j hj=>?_⟩;have rz:j<n:=by
   rcases cE j n with h|h
   ·exact h
   ·exact aN hj (tail_waits hs hc hn qz _ i rfl cY jG j h)
  refine⟨rz,?_⟩;by_cases qA:j=i
  ·subst qA;exact⟨oi,v,hi,hy,H⟩
  ·have:=Tv _ _ H j (ready_mono hj qA)
   omega
 |succ f ih=>
  intro cS a qz Ks hr hy H;have jG:=(mem_ready.1 hr).1;refine⟨fun h=>(by rw[h] at hr;cases hr),fun j hj=>?_⟩;have rz:j<n:=by
   rcases cE j n with h|h
   ·exact h
   ·exact aN hj (tail_waits hs hc hn qz _ i rfl cY jG j h)
  refine⟨rz,?_⟩;by_cases qA:j=i
  ·subst qA;exact⟨oi,v,hi,hy,H⟩
  ·have h1:=(H.2 j (ready_mono hj qA)).2
   obtain⟨Kt,oj,EJ,Ag⟩:=mem_ready.1 hj;have Tw:∀e∈oj.after,Region.binds md e=true->e.on≠i:=fun e he hb OL=>by
    have h1:=Ag e he hb;rw[OL,getD_both jG] at h1
    cases h1
   have h2:=Tr EJ (Ks j oj EJ qA Kt Tw) (fun cs b=>sy i oi cs b hi) (fun cs b=>sy j oj cs b EJ) hy h1;have Tx:∀k ok,ag[k]?=some ok->k≠i->(cS.setIfInBounds j true).getD k true=false ->
     (∀e∈ok.after,Region.binds md e=true->e.on≠i)->oi.apart ag ok=true:=fun k ok hk vV jG xv=>by
    refine Ks k ok hk vV ?_ xv;by_cases Ku:j=k
    ·subst Ku;exact Kt
    ·rw[getD_set_ne true Ku] at jG;exact jG
   refine Tq (fun a' h3=>ih (cS.setIfInBounds j true) a' (qz.set hj rz) Tx (ready_mono hr (Ne.symm qA)) h3.1 ?_) h2;rw[Array.setIfInBounds_comm _ _ qA];exact h3.2
def qB(P:Program)(ag:Array Oper)(C:World->Prop)(w0 w1:World)(B:Nat)(Q:Act->Prop):List Oper->Nat->Act->Prop
 | [],_,a=>Q a
 |o::l,k,a=>∃v,Y2 P ag C w0 w1 B k o v a/\qB P ag C w0 w1 B Q l (k+1) (a.put o.dst v)
theorem Kv{cS:Array Bool}{i:Nat}(h:i<cS.size):(cS.setIfInBounds i true).getD i false=true:=by
 simp[h]
theorem Kw{n g:Nat}{Lq:Act->Prop}(sy:Region.noSelect ag=true)(hs:Region.sinkB md ag n=true)(hc:Region.chainB md ag n=true)(hn:n<ag.size)(Bb:B<n):
  ∀(l:List Oper) (k:Nat) (cS:Array Bool) (a:Act),(∀j,j<l.length->l[j]?=ag[k+j]?)->k+l.length=n->HeadInv md ag n cS->(B<k->cS.getD B false=true) ->
  Region.lexHead md ag g l.length k cS=true->qB P ag C w0 w1 B Lq l k a ->
  xZ P md ag C w0 w1 B n (fun EK a'=>Region.seqB md ag g n EK=true/\EK.getD B false=true/\Lq a') l.length cS a
 | [],k,cS,a,_,hk,_,bV,hB,h=>by
  have:k=n:=by simpa using hk
  subst this;exact⟨by simpa[Region.lexHead] using hB,bV Bb,h⟩
 |o::l,k,cS,a,hl,hk,qz,bV,hB,h=>by
  have h0:ag[k]?=some o:=by simpa using (hl 0 (by simp)).symm
  simp only[pN,Region.lexHead,eX] at hB;obtain⟨⟨hr,hf⟩,qZ⟩:=hB;have mx:k<n:=by simp only[pN] at hk;omega
  have rY:k∈Region.ready md ag cS:=by simpa using hr
  obtain⟨v,hy,hK⟩:=h;refine Tu h0 (Region.noSelect_spec sy) hs hc hn mx (fun EK a' hL=>seqB_ready hL.1) l.length cS a qz (Region.free_spec h0 hf) rY hy
   (Kw sy hs hc hn Bb l (k+1) _ _ (fun j hj=>by have:=hl (j+1) (by simp;omega);simpa[Nat.add_assoc,Nat.add_comm 1 j] using this) (by simp only[pN] at hk;omega) (qz.set rY mx) (fun hb=>?_) qZ hK)
  by_cases e:k=B
  ·subst e
   exact Kv (by rw[qz.size];omega)
  ·exact getD_set_true (bV (by omega))
theorem Ty{i:Nat}{a:Act}{K:Act->Prop}{Q':Exit->Act->World->Prop}{K':Act->World->Prop}{w:World}(hC:C w)(hi:i≠B)(h:∀a,K a->K' a w)(hh:uM P ag C w0 w1 B i K a):wpOp P ag Q' i K' a w:=by
 obtain⟨o,v,ho,hy,hK⟩:=hh;unfold wpOp;simp only[ho];rcases hy with⟨e,-⟩|⟨-,⟨hw,hq⟩|⟨hw,rfl⟩⟩
 ·exact aN e hi
 ·simp only[hw,if_true]
  have h3:=hq w hC;unfold Oper.quietAt at h3;refine .inl ?_;unfold Oper.wp;generalize (execOp a.eval o).run P w=r at *
  cases r with
  |ok m w'=>
   cases m<;>simp only[Oper.quietUpon] at h3<;>simp only[Oper.upon]
   case value u=>
    obtain⟨e1,e2⟩:=h3;rw[e1,e2];exact h _ hK
   case skip=>
    obtain⟨e1,e2⟩:=h3;rw[e1,<-e2];exact h _ hK
   case enter f args=>
    obtain⟨e1,hc⟩:=h3;rw[e1];exact hc.mono fun e qY ⟨he,hf⟩=>by subst he hf;exact h _ hK
  |halt x w'=>simp only[Oper.quietUpon] at h3
 ·simp only[hw,Bool.false_eq_true,if_false]
  exact h _ hK
theorem EL{n g:Nat}{L:Array Bool->Act->Prop}{Q':Exit->Act->World->Prop}(Kx:B<ag.size)(x8:C w0)(x9:C w1)(hL:∀cS a,L cS a->cS.getD B false=true/\wpAny P md ag Q' g cS a w1):
  ∀(f:Nat) (cS:Array Bool) (a:Act),cS.size=ag.size->xZ P md ag C w0 w1 B n L f cS a->wpAny P md ag Q' (f+g) cS a (if cS.getD B false=true then w1 else w0)
 |0,cS,a,_,h=>by
  obtain⟨h1,h2⟩:=hL _ _ h;rw[Nat.zero_add,ay h1];exact h2
 |f+1,cS,a,hz,h=>by
  rw[show f+1+g=(f+g)+1 by omega];refine⟨fun h0=>aN h0 h.1,fun i hi=>?_⟩;have jG:=(mem_ready.1 hi).1;by_cases e:i=B
  ·have e':=e.symm
   clear e;subst e';rw[ak (by rw[getD_both jG];simp)];obtain⟨o,v,ho,hy,hK⟩:=(h.2 B hi).2;rcases hy with⟨-,hw,hr⟩|⟨e,-⟩
   ·unfold wpOp
    simp only[ho,hw,if_true];refine .inl ?_;unfold Oper.wp;rw[hr];show wpAny P md ag Q' (f+g) (cS.setIfInBounds B true) (a.put o.dst v) w1;have:=EL Kx x8 x9 hL f _ _ (by simp[hz]) hK;rw[ay (Kv (by omega))] at this;exact this
   ·exact aN rfl e
  ·refine Ty (C:=C) ?_ e (fun a' h'=>?_) (h.2 i hi).2
   ·split
    ·exact x9
    ·exact x8
   ·have:=EL Kx x8 x9 hL f _ a' (by simp[hz]) h'
    rw[getD_set_ne false e] at this;exact this
theorem CR{id:Nat}{Q:Exit->Act->World->Prop}{a:Act}{w:World}{l:List Oper}(B n:Nat)(C:World->Prop)(w1:World)(hm:P.follows .mixedOrders=true)(hB:Region.lexTailB .any l.toArray n=true)(Bb:B<n)(x8:C {w with drawn:=w.drawn+1})(x9:C w1)
  (h:qB P l.toArray C {w with drawn:=w.drawn+1} w1 B (fun a'=>wpList P l.toArray Q (l.drop n) a' w1) (l.take n) 0 a):(Code.region id l.toArray true).wp P Q a w:=by
 simp only[Region.lexTailB,eX,decide_eq_true_eq] at hB;obtain⟨⟨⟨⟨sy,hn⟩,hs⟩,hc⟩,Tz⟩:=hB;have oU:n<l.length:=by simpa using hn
 have ya:(l.take n).length=n:=by simp;omega
 have yW:(l.drop n).length=l.toArray.size-n:=by simp
 have TA:HeadInv .any l.toArray n (Array.replicate l.toArray.size false):=
  ⟨by simp,fun j oj _ hl=>(by rw[getD_replicate_false] at hl;cases hl),fun t _ ht=>getD_in (by simpa using ht) (getD_replicate_false _ _)⟩
 have H:=Kw (md:=.any) (g:=l.toArray.size-n) sy hs hc hn Bb (l.take n) 0 _ a (fun j hj=>by
  have rK:j<n:=by rw[ya] at hj;exact hj
  simp[rK]) (by simpa using ya) TA (fun hb=>by omega) (by rw[ya];exact Tz) h
 refine wp_region_any hm ?_;have:=EL (Q':=Q) (g:=l.toArray.size-n) (C:=C) (by omega) x8 x9 (fun cS a' hL=>⟨hL.2.1,by
  have:=wpAny_of_seq (md:=.any) (Q':=Q) (l.drop n) n cS a' w1 (fun j=>by simp[List.getElem?_drop]) (by rw[yW];exact hL.1) hL.2.2
  rwa [yW] at this⟩) _ _ _ (by simp) H
 rw[ya,show n+(l.toArray.size-n)=l.toArray.size by omega,getD_replicate_false,ak (by simp)] at this;exact this
theorem zF{Q:Act->Prop}{a:Act}{o:Oper}{rest:List Oper}{k:Nat}(hk:k≠B)
  (h:∀K:Act->Prop,(∀a,qB P ag C w0 w1 B Q rest (k+1) a->K a)->if Region.wanted o (yielded ag a.tmps) then (∃v,(∀w,C w->o.quietAt P a (fun qY=>qY=w) w v)/\K (a.put o.dst v)) else K (a.put o.dst undef)):qB P ag C w0 w1 B Q (o::rest) k a:=by
 have h':=h _ (fun _ h=>h)
 split at h'
 ·rename_i hw
  obtain⟨v,h1,h2⟩:=h';exact⟨v,.inr ⟨hk,.inl ⟨hw,h1⟩⟩,h2⟩
 ·rename_i hw
  exact⟨undef,.inr ⟨hk,.inr ⟨by simpa using hw,rfl⟩⟩,h'⟩
theorem CS{Q:Act->Prop}{a:Act}{o:Oper}{rest:List Oper}(v:Value)(hw:Region.wanted o (yielded ag a.tmps)=true)(hr:(execOp a.eval o).run P w0=.ok (.value v) w1)
  (h:qB P ag C w0 w1 B Q rest (B+1) (a.put o.dst v)):qB P ag C w0 w1 B Q (o::rest) B a:=
 ⟨v,.inl ⟨rfl,hw,hr⟩,h⟩
theorem CT{Q:Act->Prop}{a:Act}{k:Nat}(h:Q a):qB P ag C w0 w1 B Q [] k a:=h
end
end Go.Proofs.YtcnhfffgbamonaaGreat.call
namespace Go.Proofs.YtcnhfffgbamonaaGreat
open Go.Proofs.Tryz
open RowKit
def jU(x:Int):Prop:=-9223372036854775808<=x/\x<=9223372036854775807
theorem Tryz.LU:(prog.info? 51).map (·.size)=some 5:=by kernel_rfl
theorem awK{wz w:World}{b k:Nat}{c:Ct}(h:St wz w b k c)(hk:k<=2900000)(K A B C:Int)(s:ByteArray)(hA:jU A)(hB:jU B)(hC:jU C)(hs:s.size<=1000000000)(hK:K=2\/K=3\/K=4\/K=5\/K=6):
 Calls prog 97 #[.pointer (some ⟨b,0,none⟩),.agg (ov K A B C s)] w fun e w'=>e=.returned (.bool true)/\∃c',St wz w' b (k+1) c':=by
 rcases hK with rfl|rfl|rfl|rfl|rfl
 ·exact awm h hk A B C s hs
 ·exact awp h hk A B C s hA.1 hA.2 hB.1 hB.2
 ·exact awn h A B C s ⟨A,rfl,hA⟩ ⟨B,rfl,hB⟩ ⟨C,rfl,hC⟩
 ·rcases Nat.eq_zero_or_pos c.ls.length with hz|hz
  ·exact awt h hk A B C s hz
  ·exact aww h hk A B C s hA.1 hA.2 hz
 ·exact awo h A B C s
theorem awL{wz w:World}{b k:Nat}{c:Ct}(h:St wz w b k c)(hk:k<=2900000)(K A B C:Int)(s:ByteArray)(hA:jU A)(hB:jU B)(hC:jU C)(hs:s.size<=1000000000)(hK:K=2\/K=3\/K=4\/K=5\/K=6):
 Calls prog 61 #[.pointer (some ⟨b,0,none⟩),.agg (ov K A B C s)] w fun e w'=>e=.returned (.bool true)/\∃c',St wz w' b (k+1) c':=by
 have g0:=aQ w (.cells (ov K A B C s) 51) none;have lU:=ae (aj.bA w 51 (ov K A B C s));have HO:=ae (awK (h.grow g0) hk K A B C s hA hB hC hs hK);clear g0 h hA hB hC hK;go_enter func61,ntmps61;go_wp2_with(refine dj rfl 51 _ rfl w.heap.size rfl 51 (ov K A B C s) (0,0) _ lU.out underlying51 rfl Tryz.LU ?_);refine HO.out.mono ?_;rintro e w2⟨rfl,c',qa⟩;have eJ:=ae qa;clear qa HO lU;go_wp2;go_ret;exact⟨rfl,c',eJ.out⟩
theorem awM{wz w:World}{b k:Nat}{c:Ct}(h:St wz w b k c)(hk:k<=2900000)(A B C:Int)(s:ByteArray)(hs:s.size<=1000000000):
 Calls prog 61 #[.pointer (some ⟨b,0,none⟩),.agg (ov 1 A B C s)] w fun e w'=>e=.returned (.bool true)/\∃c',St wz w' b (k+1) c':=by
 have g0:=aQ w (.cells (ov 1 A B C s) 51) none;have lU:=ae (aj.bA w 51 (ov 1 A B C s));have HO:=ae (Wk (w.alloc (.cells (ov 1 A B C s) 51)) b 1 A B C s (by decide) (by decide) (by decide) (by decide) (by decide));have HS:=ae (h.grow g0);clear g0 h;go_enter func61,ntmps61;go_wp2_with(refine dj rfl 51 _ rfl w.heap.size rfl 51 (ov 1 A B C s) (0,0) _ lU.out underlying51 rfl Tryz.LU ?_);refine HO.out.mono ?_;rintro e w2⟨rfl,aM⟩;have ff:=lU.out.kept aM (by simp);have p0:w2.cell? ⟨w.heap.size,0,none⟩=some (.int .i64 1):=ff.cell 0;have p4:w2.cell? ⟨w.heap.size,4,none⟩=some (.string s):=ff.cell 4;have HC:=ae (ag4 (HS.out.grow aM) (by omega) s (by omega));clear ff aM HO lU HS;go_wp2_with fail;refine HC.out.mono ?_;rintro e w3⟨rfl,h3⟩;have HE:Hid (∃c',St wz w3 b (k+1) c'):=by
  rcases h3 with⟨-,h3⟩|⟨_,_,_,_,_,h3⟩
  ·exact⟨_,h3⟩
  ·exact⟨_,h3⟩
 clear h3 HC p0 p4;go_wp2;go_ret;exact⟨rfl,HE.out⟩
theorem awN{wz w:World}{b k:Nat}{c:Ct}(h:St wz w b k c)(K A B C:Int)(s:ByteArray)(h1:K≠1)(h2:K≠2)(h3:K≠3)(h4:K≠4)(h5:K≠5)(h6:K≠6)(hz:c.ps.length=0):
 Calls prog 61 #[.pointer (some ⟨b,0,none⟩),.agg (ov K A B C s)] w fun e w'=>e=.returned (.bool true)/\∃c',St wz w' b (k+1) c':=by
 have g0:=aQ w (.cells (ov K A B C s) 51) none;have lU:=ae (aj.bA w 51 (ov K A B C s));have HO:=ae (Wk (w.alloc (.cells (ov K A B C s) 51)) b K A B C s h2 h3 h4 h5 h6);have HS:=ae (h.grow g0);have b1:(K==1)=false:=by simpa using h1
 clear g0 h h1 h2 h3 h4 h5 h6;go_enter func61,ntmps61;go_wp2_with(refine dj rfl 51 _ rfl w.heap.size rfl 51 (ov K A B C s) (0,0) _ lU.out underlying51 rfl Tryz.LU ?_);refine HO.out.mono ?_;rintro e w2⟨rfl,aM⟩;have ff:=lU.out.kept aM (by simp);have p0:w2.cell? ⟨w.heap.size,0,none⟩=some (.int .i64 K):=ff.cell 0;have xh:=HS.out.grow aM;obtain⟨ao,cc,ev⟩:=gP xh.kp;have q0:w2.cell? ⟨b,0,none⟩=some (.slice ao c.ps.length cc):=by rw[<-ev];exact xh.L.cell 0
 rw[hz] at q0;have HE:=ae (xh.vH (k':=k+1) (by omega));clear ff aM HO lU HS xh ev hz;go_wp2;go_ret;exact⟨rfl,_,HE.out⟩
theorem awO{wz w:World}{b k:Nat}{c:Ct}(h:St wz w b k c)(hk:k<=2800000)(K A B C:Int)(s:ByteArray)(h1:K≠1)(h2:K≠2)(h3:K≠3)(h4:K≠4)(h5:K≠5)(h6:K≠6)(hA:jU A)(hs:s.size<=1000000000)(hz:0<c.ps.length):
 Calls prog 61 #[.pointer (some ⟨b,0,none⟩),.agg (ov K A B C s)] w fun e w'=>e=.returned (.bool true)/\∃c',St wz w' b (k+1) c':=by
 have g0:=aQ w (.cells (ov K A B C s) 51) none;have lU:=ae (aj.bA w 51 (ov K A B C s));have HO:=ae (Wk (w.alloc (.cells (ov K A B C s) 51)) b K A B C s h2 h3 h4 h5 h6);have HS:=ae (h.grow g0);have b1:(K==1)=false:=by simpa using h1
 have hnp:=h.np;clear g0 h h1 h2 h3 h4 h5 h6;go_enter func61,ntmps61;go_wp2_with(refine dj rfl 51 _ rfl w.heap.size rfl 51 (ov K A B C s) (0,0) _ lU.out underlying51 rfl Tryz.LU ?_);refine HO.out.mono ?_;rintro e w2⟨rfl,aM⟩;have ff:=lU.out.kept aM (by simp);have p0:w2.cell? ⟨w.heap.size,0,none⟩=some (.int .i64 K):=ff.cell 0;have p1:w2.cell? ⟨w.heap.size,1,none⟩=some (.int .i64 A):=ff.cell 1;have xh:=HS.out.grow aM;obtain⟨j,hj,ko⟩:=Qb A c.ps.length hz;obtain⟨p,hp⟩:∃p,c.ps[j]?=some p:=⟨_,aS ko⟩;obtain⟨gp,zY,yx,hR⟩:=xh.P3 hp;have q0:w2.cell? ⟨b,0,none⟩=some (.slice (some ⟨gp,0,none⟩) c.ps.length zY):=by rw[<-yx];exact xh.L.cell 0
 have HP:=ae (fun(W:World)=>ahr A c.ps.length W hA.1 hA.2 (by omega) (by omega));rw[hj] at HP;have iD:=ae ff;have gL:=ae xh;have HR:=ae hR;have Wo:=ae (bU hp);clear ff aM HO lU HS xh yx hR hp hj hA;obtain⟨n,Hn⟩:∃n,Hid (c.ps.length=n):=⟨_,rfl⟩;rw[Hn.out] at q0 HP hz ko hnp;have d0:w2.cell? ⟨gp,j*2,none⟩=some (.pointer (some ⟨p.q,0,none⟩)):=HR.out 0 _ rfl;have d1:w2.cell? ⟨gp,j*2+1,none⟩=some (.pointer (some ⟨p.gb,0,none⟩)):=HR.out 1 _ rfl;go_wp2_with fail;have r1:=cell_regrown p1;have r2:=cell_regrown q0;have r3:=cell_regrown d0;have r4:=cell_regrown d1;clear p1 q0 d0 d1;refine call.CR 14 15 (fun W=>∃p:Regrown,W=Go.Sort.grow (redrawn w2 p.d) p.os) (w2.drew.alloc (.cells #[.pointer none,.pointer none] 39)) (by kernel_rfl) (by kernel_rfl) (by decide) ⟨⟨w2.drawn+1,#[]⟩,by rw[Go.Sort.grow_empty];rfl⟩ ⟨⟨w2.drawn+1,#[.cells #[.pointer none,.pointer none] 39]⟩,rfl⟩ ?_;simp only[List.take_succ_cons,List.take_zero,List.drop_succ_cons,List.drop_zero]
 repeat (refine call.zF (by decide) (fun K hK=>?_);go_simp;refine hK _ ?_;clear hK K)
 refine call.zF (by decide) (fun K hK=>?_);go_simp;refine⟨.int .i64 j,fun a=>HP.out _,hK _ ?_⟩;clear hK K
 repeat (refine call.zF (by decide) (fun K hK=>?_);go_simp;refine hK _ ?_;clear hK K)
 refine call.CS (.pointer (some ⟨w2.heap.size,0,none⟩)) ?hw ?hr ?_
 case hw=>rfl
 case hr=>go_simp
 refine call.CT ?_;clear r1 r2 r3 r4 HP;have gd:w2.grownBy (w2.alloc (.cells #[.pointer (some ⟨p.q,0,none⟩),.pointer (some ⟨p.gb,0,none⟩)] 39)).drew none:=aC (aQ w2 _ none) (gE _ none);have lE:=ae (gL.out.grow gd);have iA:=iD.out.kept gd (by simp);have Ew:aj (w2.alloc (.cells #[.pointer (some ⟨p.q,0,none⟩),.pointer (some ⟨p.gb,0,none⟩)] 39)).drew w2.heap.size 39 #[.pointer (some ⟨p.q,0,none⟩),.pointer (some ⟨p.gb,0,none⟩)]:=aj.bA w2 39 #[.pointer (some ⟨p.q,0,none⟩),.pointer (some ⟨p.gb,0,none⟩)];have lk:=iD.out.lt;have e0:(w2.alloc (.cells #[.pointer (some ⟨p.q,0,none⟩),.pointer (some ⟨p.gb,0,none⟩)] 39)).drew.cell? ⟨w2.heap.size,0,none⟩=some (.pointer (some ⟨p.q,0,none⟩)):=Ew.cell 0;have e1:(w2.alloc (.cells #[.pointer (some ⟨p.q,0,none⟩),.pointer (some ⟨p.gb,0,none⟩)] 39)).drew.cell? ⟨w2.heap.size,1,none⟩=some (.pointer (some ⟨p.gb,0,none⟩)):=Ew.cell 1;have e4:(w2.alloc (.cells #[.pointer (some ⟨p.q,0,none⟩),.pointer (some ⟨p.gb,0,none⟩)] 39)).drew.cell? ⟨w.heap.size,4,none⟩=some (.string s):=iA.cell 4;have p4:w2.cell? ⟨w.heap.size,4,none⟩=some (.string s):=iD.out.cell 4;clear gd iA Ew HR gL iD;by_cases h7:K=7
 ·subst h7
  go_wp2_with(refine aaY rfl 39 _ _ rfl w2.heap.size #[.pointer (some ⟨p.q,0,none⟩),.pointer (some ⟨p.gb,0,none⟩)] rfl rfl 39 #[.pointer none,.pointer none] (aj.bA w2.drew 39 _) Tryz.Ia rfl rfl ?_;rw[World.setRow_alloc_new]);generalize (w2.alloc (.cells #[.pointer (some ⟨p.q,0,none⟩),.pointer (some ⟨p.gb,0,none⟩)] 39)).drew=w3 at *;obtain⟨V7,Ib,pQ,Ff⟩:=lE.out.lin;obtain⟨ar,cr,er⟩:=gP lE.out.kr;have c6:w3.cell? ⟨b,6,none⟩=some (.slice ar c.rg.length cr):=by rw[<-er];exact lE.out.L.cell 6
  have GG:=lE.out.nr;rw[er] at Ib;have DB:=ae (VV (lE.out.grow (gE w3 none)) (by omega) Wo.out ar c.rg.length cr V7 (Ib.Z (gE w3 none)) (fun l hl=>by have:=Ff l hl;omega) (by omega));clear Ib pQ Ff er lE;go_still_tail 6,(by kernel_rfl);show wpList _ _ _ _ _ (World.drew _);clear c6 e0 e1 e4;generalize w3.drew=w7 at *;go_wp2_with fail;refine DB.out.mono ?_;rintro e w8⟨rfl,-,ahm,ahn,av9,aho,awa,xi⟩;have HE:=ae xi;clear xi DB;go_wp2;go_ret;exact⟨rfl,_,HE.out⟩
 ·have b7:(K==7)=false:=by simpa using h7
  clear h7;by_cases h8:K=8
  ·subst h8
   have HC:=ae (awk lE.out (by omega) Wo.out);go_wp2_with(refine aaY rfl 39 _ _ rfl w2.heap.size #[.pointer (some ⟨p.q,0,none⟩),.pointer (some ⟨p.gb,0,none⟩)] rfl rfl 39 #[.pointer none,.pointer none] (aj.bA w2.drew 39 _) Tryz.Ia rfl rfl ?_;rw[World.setRow_alloc_new]);refine HC.out.mono ?_;rintro e w8⟨rfl,vt',azK,tl',xi⟩;have HE:=ae xi;clear xi HC lE;go_wp2;go_ret;exact⟨rfl,_,HE.out⟩
  ·have b8:(K==8)=false:=by simpa using h8
   clear h8;by_cases h9:K=9
   ·subst h9
    have HC:=ae (ahe lE.out (by omega) Wo.out s hs);go_wp2_with(refine aaY rfl 39 _ _ rfl w2.heap.size #[.pointer (some ⟨p.q,0,none⟩),.pointer (some ⟨p.gb,0,none⟩)] rfl rfl 39 #[.pointer none,.pointer none] (aj.bA w2.drew 39 _) Tryz.Ia rfl rfl ?_;rw[World.setRow_alloc_new]);refine HC.out.mono ?_;rintro e w8⟨rfl,-,ahm,ahn,azM,aho,azN,xi⟩;have HE:=ae xi;clear xi HC lE;go_wp2;go_ret;exact⟨rfl,_,HE.out⟩
   ·have b9:(K==9)=false:=by simpa using h9
    clear h9;have HE:=ae (lE.out.vH (k':=k+1) (by omega));clear lE;go_wp2_with(refine aaY rfl 39 _ _ rfl w2.heap.size #[.pointer (some ⟨p.q,0,none⟩),.pointer (some ⟨p.gb,0,none⟩)] rfl rfl 39 #[.pointer none,.pointer none] (aj.bA w2.drew 39 _) Tryz.Ia rfl rfl ?_;rw[World.setRow_alloc_new]);go_ret;exact⟨rfl,_,HE.out⟩
theorem awQ{wz w:World}{b k:Nat}{c:Ct}(h:St wz w b k c)(hk:k<=2800000)(K A B C:Int)(s:ByteArray)(hA:jU A)(hB:jU B)(hC:jU C)(hs:s.size<=1000000000):
 Calls prog 61 #[.pointer (some ⟨b,0,none⟩),.agg (ov K A B C s)] w fun e w'=>e=.returned (.bool true)/\∃c',St wz w' b (k+1) c':=by
 by_cases ho:K=2\/K=3\/K=4\/K=5\/K=6
 ·exact awL h (by omega) K A B C s hA hB hC hs ho
 ·by_cases h1:K=1
  ·subst h1;exact awM h (by omega) A B C s hs
  ·rcases Nat.eq_zero_or_pos c.ps.length with hz|hz
   ·exact awN h K A B C s h1 (by omega) (by omega) (by omega) (by omega) (by omega) hz
   ·exact awO h hk K A B C s h1 (by omega) (by omega) (by omega) (by omega) (by omega) hA hs hz
section
variable {P:Program}
theorem awR(w:World)(ad:Addr)(ty:TypeId)(cs:List Value)(d:TypeDesc)(hc:∀j v,cs[j]?=some v->w.cell? (ad.add j)=some v)(hu:P.underlying ty=some d)(hd:d.isRow=true)(hi:(P.info? ty).map (·.size)=some cs.length):
 (loadVar ty ad).run P w=.ok (.agg cs.toArray) w:=by
 have hl:=run_loadCells_list (P:=P) w ad cs hc;rcases hq:P.info? ty with _|i
 ·simp[hq] at hi
 ·have hs:i.size=cs.length:=by simpa[hq] using hi
  have awS:(isAgg ty).run P w=.ok true w:=by
   unfold isAgg;rw[Sem.run_bind,run_underlying hu w]
   cases d<;>simp_all
  simp[loadVar,Sem.run_bind,awS,sizeOf,typeInfo,hq,hs,hl]
theorem awT{ag:Array Oper}{rest:List Oper}{op:Oper}{a:Act}{w:World}{Q:Exit->Act->World->Prop}(eH:op.guard=none)(ty:TypeId)(x:Operand)(ho:op.op=.load ty x)
  (ad:Addr) (hx:a.eval x=.pointer (some ad)) (cs:List Value) (d:TypeDesc) (hc:∀j v,cs[j]?=some v->w.cell? (ad.add j)=some v) (hu:P.underlying ty=some d) (hd:d.isRow=true) (hi:(P.info? ty).map (·.size)=some cs.length)
  (h:wpList P ag Q rest (a.put op.dst (.agg cs.toArray)) w):wpList P ag Q (op::rest) a w:=
 wpList_plain eH fun _ hK=>by
  unfold Oper.wp execOp;simp only[ho,hx,Instr.loadAt,Instr.sureAddr,Sem.run_bind,Sem.run_pure,Result.andThen_ok,awR w ad ty cs d hc hu hd hi];exact hK _ _ h
end
structure qb where
 K:Int
 A:Int
 B:Int
 C:Int
 s:ByteArray
def qb.ok(o:qb):Prop:=jU o.A/\jU o.B/\jU o.C/\o.s.size<=1000000000
def vq(w:World)(v:Value)(ag:List qb):Prop:=
 ∃(ao:Option Addr) (cp:Nat),v=.slice ao ag.length cp/\∀(i:Nat) o,ag[i]?=some o->∃a,ao=some a/\∀j u,(ov o.K o.A o.B o.C o.s).toList[j]?=some u->w.cell? ((a.add (i*5)).add j)=some u
theorem vq.Z{w w':World}{v:Value}{ag:List qb}(h:vq w v ag)(hg:w.grownBy w' none):vq w' v ag:=by
 obtain⟨ao,cp,e,h⟩:=h;exact⟨ao,cp,e,fun i o ho=>by obtain⟨a,ea,ha⟩:=h i o ho;exact⟨a,ea,fun j u hu=>aG hg (ha j u hu)⟩⟩
theorem vq.len{w:World}{ao:Option Addr}{n c:Nat}{ag:List qb}(h:vq w (.slice ao n c) ag):n=ag.length:=by
 obtain⟨_,_,e,_⟩:=h;injection e with _ e _
theorem vq.get{w:World}{ao:Option Addr}{n c:Nat}{ag:List qb}(h:vq w (.slice ao n c) ag)(i:Nat)(o:qb)(ho:ag[i]?=some o):∃a,ao=some a/\∀j u,(ov o.K o.A o.B o.C o.s).toList[j]?=some u->w.cell? ((a.add (i*5)).add j)=some u:=by
 obtain⟨_,_,e,h⟩:=h;injection e with e _ _;subst e;exact h i o ho
theorem awU(ao:Option Addr)(n cp:Nat)(ag:List qb)(w:World)(hS:vq w (.slice ao n cp) ag)(nQ:∀o∈ag,o.ok)(_hn:ag.length<=9223372036854775807):
 Calls prog 31 #[.slice ao n cp] w fun e w'=>e=.returned (.int .i64 (-1))/\w.grownBy w' none:=by
 obtain rfl:=hS.len;have HS:=ae hS;have jx:=ae nQ;have H0:=ae (St.bA w);clear hS nQ;go_enter func31,ntmps31;go_wp2;go_loopw[4] (fun i wr=>∃(k:Nat) (c:Ct),Hid (k<=ag.length/\k<=1048576)/\i=.int .i64 k/\Hid (St w wr w.heap.size (k+1) c)) (fun i _=>ag.length-(intOf i).toNat)
 case atStart=>exact⟨0,LK,⟨bK _,bK _⟩,rfl,H0.out⟩
 case round=>
  clear H0;obtain⟨k,c,Hk,rfl,eJ⟩:=hrel;obtain⟨hk,qo⟩:=Hk.out;by_cases aJ:k<ag.length/\k<1048576
  ·obtain⟨hl,AS⟩:=aJ
   obtain⟨o,ho⟩:∃o,ag[k]?=some o:=⟨_,aS hl⟩;obtain⟨a,ea,iU⟩:=(HS.out.Z eJ.out.gz).get k o ho;subst ea;obtain⟨oA,oB,oC,os⟩:=jx.out o (bU ho);have HC:=ae (awQ eJ.out (by omega) o.K o.A o.B o.C o.s oA oB oC os);have oG:=ae iU;have TC:(k:Int)<1048576:=by omega
   have FO:=ae AS;clear iU ho oA oB oC os eJ qo AS;go_wp2_with(refine awT rfl 51 _ rfl (a.add (k*5)) rfl (ov o.K o.A o.B o.C o.s).toList _ oG.out underlying51 rfl Tryz.LU ?_);refine HC.out.mono ?_;rintro e w2⟨rfl,c',qa⟩;have HL:=ae (ag5 qa (by have:=FO.out;omega));have eJ:=ae qa;clear qa HC oG;go_wp2_with fail;refine HL.out.mono ?_;rintro e w3⟨rfl,aU⟩;have PN:=ae (eJ.out.grow aU);clear aU HL eJ;go_wp2;go_roundw
   case rel=>exact⟨k+1,c',⟨by omega,by have:=FO.out;omega⟩,by go_num,PN.out⟩
   case measure=>simp[intOf];omega
  ·have HG:=ae eJ.out.gz
   clear eJ;have hc:(k=ag.length/\True)\/(k<ag.length/\¬((k:Int)<1048576)):=by
    by_cases e:k=ag.length
    ·exact .inl ⟨e,trivial⟩
    ·exact .inr ⟨by omega,fun h=>aJ ⟨by omega,by omega⟩⟩
   clear qo aJ;rcases hc with⟨e1,e2⟩|⟨e1,e2⟩
   ·go_wp2
    go_ret;exact⟨rfl,HG.out⟩
   ·go_wp2
    go_ret;exact⟨rfl,HG.out⟩
theorem Wp(ao:Option Addr)(n cp:Nat)(ag:List qb)(lo hi:Int)(w:World)(hS:vq w (.slice ao n cp) ag)(nQ:∀o∈ag,o.ok)(hn:ag.length<=9223372036854775807):
 Calls prog 15 #[.slice ao n cp,.int .i64 lo,.int .i64 hi] w fun e w'=>e=.returned (.bool true)/\w.grownBy w' none:=by
 have HC:=ae (awU ao n cp ag w hS nQ hn);clear hS nQ;go_enter func15,ntmps15;go_wp2_with fail;refine HC.out.mono ?_;rintro e w2⟨rfl,hg⟩;have HG:=ae hg;clear hg HC;go_wp2;go_ret;exact⟨rfl,HG.out⟩
open ChangeShapes WideShapes ChangeAt RowKit
namespace scr
theorem cT:ownKnob prog.godebug=none:=by kernel_rfl
theorem ahy:prog.cellsOf 51=5:=by kernel_rfl
theorem Ic:prog.cellsOf 3=1:=by kernel_rfl
theorem awY:prog.cellsOf 9=1:=by kernel_rfl
theorem LP:laidOutB prog=true:=by kernel_rfl
theorem V8{H:Type}(d:DataW H):1<=Rows.uptoBulk d:=by
 cases d with
 |lit l=>cases l<;>simp[Rows.uptoBulk]
 |_=>simp[Rows.uptoBulk]
theorem P8{H:Type}{d:DataW H}{l:List (DataW H)}(h:d∈l):Rows.uptoBulk d<=Rows.uptoBulkAll l:=by
 induction l with
 |nil=>cases h
 |cons x r ih=>
  simp only[Rows.uptoBulkAll];rcases List.mem_cons.1 h with e|e
  ·subst e;omega
  ·have:=ih e;omega
theorem P9{H:Type}(l:List (DataW H)):l.length<=Rows.uptoBulkAll l:=by
 induction l with
 |nil=>simp[Rows.uptoBulkAll]
 |cons x r ih=>have:=V8 x;simp only[Rows.uptoBulkAll,pN];omega
theorem awZ{H:Type}{enc:TypeId×Value->H}{W:World}{n:Nat}{cs:List Value}{x:DataW H×List MemPlace}(h:DataW.trod enc prog W 0 (fun _=>true) true n 51 cs=some x):
 ∃o:qb,cs=(ov o.K o.A o.B o.C o.s).toList/\jU o.A/\jU o.B/\jU o.C/\o.s.size<=Rows.uptoBulk x.1:=by
 obtain⟨xs,n',-,hx,hl,iX,hf⟩:=DataW.trod_struct underlying51 h;rw[ahy] at hl;obtain⟨c0,c1,c2,c3,c4,rfl⟩:∃c0 c1 c2 c3 c4,cs=[c0,c1,c2,c3,c4]:=by
  rcases cs with _|⟨c0,_|⟨c1,_|⟨c2,_|⟨c3,_|⟨c4,_|⟨c5,r⟩⟩⟩⟩⟩⟩<;>simp at hl;exact⟨_,_,_,_,_,rfl⟩
 obtain⟨y0,y1,y2,y3,y4,rfl⟩:∃y0 y1 y2 y3 y4,xs=[y0,y1,y2,y3,y4]:=by
  have aw2:xs.length=5:=by rw[iX];rfl
  rcases xs with _|⟨c0,_|⟨c1,_|⟨c2,_|⟨c3,_|⟨c4,_|⟨c5,r⟩⟩⟩⟩⟩⟩<;>simp at aw2;exact⟨_,_,_,_,_,rfl⟩
 have f0:DataW.trod enc prog W 0 (fun _=>true) true n' 3 (([c0,c1,c2,c3,c4].drop 0).take (prog.cellsOf 3))=some y0:=hf 0 _ rfl;rw[Ic] at f0;have f1:DataW.trod enc prog W 0 (fun _=>true) true n' 3 (([c0,c1,c2,c3,c4].drop 1).take (prog.cellsOf 3))=some y1:=hf 1 _ rfl;rw[Ic] at f1;have f2:DataW.trod enc prog W 0 (fun _=>true) true n' 3 (([c0,c1,c2,c3,c4].drop 2).take (prog.cellsOf 3))=some y2:=hf 2 _ rfl;rw[Ic] at f2;have f3:DataW.trod enc prog W 0 (fun _=>true) true n' 3 (([c0,c1,c2,c3,c4].drop 3).take (prog.cellsOf 3))=some y3:=hf 3 _ rfl;rw[Ic] at f3;have f4:DataW.trod enc prog W 0 (fun _=>true) true n' 9 (([c0,c1,c2,c3,c4].drop 4).take (prog.cellsOf 9))=some y4:=hf 4 _ rfl;rw[awY] at f4;obtain⟨K,e0,-,-⟩:=DataW.trod_int underlying3 f0;obtain⟨A,e1,-,wA⟩:=DataW.trod_int underlying3 f1;obtain⟨B,e2,-,wB⟩:=DataW.trod_int underlying3 f2;obtain⟨C,e3,-,wC⟩:=DataW.trod_int underlying3 f3;obtain⟨s,e4,x4,-⟩:=DataW.trod_string underlying9 f4;refine⟨⟨K,A,B,C,s⟩,?_,bounds_i64 wA,bounds_i64 wB,bounds_i64 wC,?_⟩
 ·simp at e0 e1 e2 e3 e4
  subst e0 e1 e2 e3 e4
  rfl
 ·rw[hx]
  have h4:=P8 (d:=y4.1) (l:=[y0.1,y1.1,y2.1,y3.1,y4.1]) (by simp);have e5:y4.1=.lit (.string s.data.toList):=by simpa using congrArg Prod.fst x4
  rw[e5] at h4;simp only[Rows.uptoBulk] at h4 ⊢;have e:s.data.toList.length=s.size:=by rw[Array.length_toList];rfl
  simp only[List.map_cons,List.map_nil];rw[e5];show s.size<=_;omega
theorem Wq{H:Type}{enc:TypeId×Value->H}{W:World}{v:Value}{d:DataW H}{p:List MemPlace}(hv:∃a len cap,v=.slice a len cap)(h:DataW.Trod enc prog W 0 (fun _=>true) true 22 v d p):
 ∃ao cp,∃ag:List qb,v=.slice ao ag.length cp/\vq W v ag/\ag.length<=Rows.uptoBulk d/\∀o∈ag,jU o.A/\jU o.B/\jU o.C/\o.s.size<=Rows.uptoBulk d:=by
 obtain⟨n,h⟩:=h;obtain⟨a0,l0,c0,rfl⟩:=hv;rcases DataW.trod_slice underlying22 h with⟨iU,hx⟩|⟨a,len,cap,qK,rest,n',-,iU,hx,-,hl,-,iX,V9,-,-⟩
 ·have e:Value.slice a0 l0 c0=.slice none 0 0:=by simpa[Value.cells] using iU
  exact⟨none,0,[],e,⟨none,0,e,fun i l hl=>by cases hl⟩,by simp,by simp⟩
 ·have e:Value.slice a0 l0 c0=.slice (some a) len cap:=by simpa[Value.cells] using iU
  have hd:d=.slice (qK.map (·.1)) (rest.map (·.1)):=by have:=congrArg Prod.fst hx;simpa using this
  have cF:∀(i:Nat) y,qK[i]?=some y->∃o:qb,(∀j u,(ov o.K o.A o.B o.C o.s).toList[j]?=some u->W.cell? ((a.add (i*5)).add j)=some u)/\jU o.A/\jU o.B/\jU o.C/\o.s.size<=Rows.uptoBulk y.1:=fun i y hy=>by
   have hi:i<len:=by have:=M.bP hy;omega
   have h1:=V9 i hi;rw[hy,ahy,Option.bind_eq_some_iff] at h1;obtain⟨ua,hc,ht⟩:=h1;obtain⟨-,kz,Mc⟩:=World.cells?_some hc;obtain⟨o,rfl,r⟩:=awZ ht;exact⟨o,fun j u hu=>by rw[Mc j (by have:=M.bP hu;omega),hu],r⟩
  obtain⟨ag,fq,cY⟩:∃ag:List qb,ag.length=qK.length/\∀(i:Nat) o,ag[i]?=some o->∃y,qK[i]?=some y/\(∀j u,(ov o.K o.A o.B o.C o.s).toList[j]?=some u->W.cell? ((a.add (i*5)).add j)=some u)/\jU o.A/\jU o.B/\jU o.C/\o.s.size<=Rows.uptoBulk y.1:=by
   have LN:∀(es:List (DataW H×List MemPlace)) (f:Nat),(∀(i:Nat) y,es[i]?=some y->∃o:qb,(∀j u,(ov o.K o.A o.B o.C o.s).toList[j]?=some u->W.cell? ((a.add ((f+i)*5)).add j)=some u)/\jU o.A/\jU o.B/\jU o.C/\o.s.size<=Rows.uptoBulk y.1)->∃ag:List qb,ag.length=es.length/\∀(i:Nat) o,ag[i]?=some o->∃y,es[i]?=some y/\(∀j u,(ov o.K o.A o.B o.C o.s).toList[j]?=some u->W.cell? ((a.add ((f+i)*5)).add j)=some u)/\jU o.A/\jU o.B/\jU o.C/\o.s.size<=Rows.uptoBulk y.1:=fun es=>by
    induction es with
    |nil=>exact fun f _=>⟨[],rfl,fun i o ho=>by cases ho⟩
    |cons y es ih=>
     intro f hk;obtain⟨o,h1⟩:=hk 0 y rfl;obtain⟨ag,h4,h5⟩:=ih (f+1) (fun i y hy=>by have:=hk (i+1) y (by simpa using hy);rwa [show f+1+i=f+(i+1) by omega]);refine⟨o::ag,by simp[h4],fun i o' iM=>?_⟩
     cases i with
     |zero=>simp at iM;subst iM;exact⟨y,rfl,h1⟩
     |succ i=>
      obtain⟨y',e1,e2⟩:=h5 i o' (by simpa using iM);exact⟨y',by simpa using e1,by rwa [show f+(i+1)=f+1+i by omega]⟩
   obtain⟨ag,h4,h5⟩:=LN qK 0 (fun i y hy=>by rw[Nat.zero_add];exact cF i y hy);exact⟨ag,h4,fun i o ho=>by have:=h5 i o ho;rwa [Nat.zero_add] at this⟩
  have e1:ag.length=len:=by omega
  refine⟨some a,cap,ag,by rw[e1];exact e,⟨some a,cap,by rw[e1];exact e,fun i o ho=>?_⟩,?_,fun o ho=>?_⟩
  ·obtain⟨y,-,h1,-⟩:=cY i o ho
   exact⟨a,rfl,h1⟩
  ·rw[hd]
   simp only[Rows.uptoBulk];have:=P9 (qK.map (·.1));rw[jb] at this;omega
  ·obtain⟨i,hi⟩:=List.mem_iff_getElem?.1 ho
   obtain⟨y,hy,-,hA,hB,hC,hb⟩:=cY i o hi;have h6:=P8 (d:=y.1) (List.mem_map.2 ⟨y,bU hy,rfl⟩:y.1∈qK.map (·.1));refine⟨hA,hB,hC,?_⟩;rw[hd];simp only[Rows.uptoBulk];omega
end scr
end Go.Proofs.YtcnhfffgbamonaaGreat
