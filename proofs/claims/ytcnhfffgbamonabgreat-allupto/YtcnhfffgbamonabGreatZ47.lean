import Derived.Test.YtcnhfffgbamonabGreatRows
import Derived.ProofKit
import Derived.OpenShut
import Derived.JoinedCond
import Derived.ChangeSlices
import Derived.Carry
import Derived.Test.YtcnhfffgbamonabGreatZ46
import Derived.Test.YtcnhfffgbamonabGreatZ43
set_option maxRecDepth 100000
set_option maxHeartbeats 6400000
namespace Go.Proofs.YtcnhfffgbamonabGreat.call
open Go.Proofs.Tryz
open Go
section
variable {P:Program} {ag:Array Oper} {md:Region.Mode} {C:World->Prop} {w0 w1:World} {B:Nat}
def Y2(P:Program)(ag:Array Oper)(C:World->Prop)(w0 w1:World)(B i:Nat)(o:Oper)(v:Value)(a:Act):Prop:=
 (i=B/\Region.wanted o (yielded ag a.tmps)=true/\(execOp a.eval o).run P w0=.ok (.value v) w1) \/
 (i≠B/\((Region.wanted o (yielded ag a.tmps)=true/\∀w,C w->o.quietAt P a (fun qM=>qM=w) w v)\/(Region.wanted o (yielded ag a.tmps)=false/\v=undef)))
theorem Y2.JR{i:Nat}{o:Oper}{v:Value}{a a':Act}(hy:Y2 P ag C w0 w1 B i o v a)(he:execOp a'.eval o=execOp a.eval o)
  (hw:Region.wanted o (yielded ag a'.tmps)=Region.wanted o (yielded ag a.tmps)):Y2 P ag C w0 w1 B i o v a':=by
 unfold Y2 Oper.quietAt at *;rw[he,hw];exact hy
def uA(P:Program)(ag:Array Oper)(C:World->Prop)(w0 w1:World)(B i:Nat)(K:Act->Prop)(a:Act):Prop:=
 ∃o v,ag[i]?=some o/\Y2 P ag C w0 w1 B i o v a/\K (a.put o.dst v)
theorem SH{i:Nat}{a:Act}{K K':Act->Prop}(h:∀a,K a->K' a)(hh:uA P ag C w0 w1 B i K a):uA P ag C w0 w1 B i K' a:=by
 obtain⟨o,v,h1,h2,h3⟩:=hh;exact⟨o,v,h1,h2,h _ h3⟩
theorem SK{i j:Nat}{oi oj:Oper}{v:Value}(hj:ag[j]?=some oj)(JS:oi.apart ag oj=true)
  (FI:∀cs b,oi.op≠.select cs b) (SL:∀cs b,oj.op≠.select cs b) {K:Act->Prop} {a:Act}
  (hy:Y2 P ag C w0 w1 B i oi v a) (h:uA P ag C w0 w1 B j K (a.put oi.dst v)) :
  uA P ag C w0 w1 B j (fun a'=>Y2 P ag C w0 w1 B i oi v a'/\K (a'.put oi.dst v)) a:=by
 obtain⟨h1,h2,h3⟩:=Oper.apart_spec JS;obtain⟨o,u,ho,hu,hK⟩:=h;have:o=oj:=Option.some.inj (ho.symm.trans hj);subst this;refine⟨o,u,ho,hu.JR (execOp_put o SL a oi.dst v h1).symm (wanted_put o a oi.dst v h1).symm,hy.JR (execOp_put oi FI a o.dst u h3) (wanted_put oi a o.dst u h3),?_⟩;rw[<-Act.put_comm a v u h2];exact hK
def xI(P:Program)(md:Region.Mode)(ag:Array Oper)(C:World->Prop)(w0 w1:World)(B n:Nat)(L:Array Bool->Act->Prop):Nat->Array Bool->Act->Prop
 | 0,cP,a=>L cP a
 | f+1,cP,a=>
  Region.ready md ag cP≠[]/\∀i∈Region.ready md ag cP,i<n/\uA P ag C w0 w1 B i (xI P md ag C w0 w1 B n L f (cP.setIfInBounds i true)) a
theorem SM{n i:Nat}{oi:Oper}{v:Value}{L:Array Bool->Act->Prop}(hi:ag[i]?=some oi)(rX:∀(j:Nat) (o:Oper) cs b,ag[j]?=some o->o.op≠.select cs b)
  (hs:Region.sinkB md ag n=true) (hc:Region.chainB md ag n=true) (hn:n<ag.size) (dd:i<n)
  (SN:∀cP a,L cP a->∀j∈Region.ready md ag cP,n<=j) :
  ∀(f:Nat) (cP:Array Bool) (a:Act),HeadInv md ag n cP ->
   (∀j oj,ag[j]?=some oj->j≠i->cP.getD j true=false->(∀e∈oj.after,Region.binds md e=true->e.on≠i)->oi.apart ag oj=true) ->
   i∈Region.ready md ag cP->Y2 P ag C w0 w1 B i oi v a ->
   xI P md ag C w0 w1 B n L f (cP.setIfInBounds i true) (a.put oi.dst v)->xI P md ag C w0 w1 B n L (f+1) cP a:=by
 intro f
 induction f with
 | zero=>
  intro cP a qk _ hr hy H;have jF:=(mem_ready.1 hr).1;refine⟨fun h=>(by rw[h] at hr;cases hr),fun j hj=>?_⟩;have qX:j<n:=by
   rcases cF j n with h|h
   ·exact h
   ·exact aN hj (tail_waits hs hc hn qk _ i rfl dd jF j h)
  refine⟨qX,?_⟩;by_cases ql:j=i
  ·subst ql;exact⟨oi,v,hi,hy,H⟩
  ·have:=SN _ _ H j (ready_mono hj ql)
   omega
 | succ f ih=>
  intro cP a qk JT hr hy H;have jF:=(mem_ready.1 hr).1;refine⟨fun h=>(by rw[h] at hr;cases hr),fun j hj=>?_⟩;have qX:j<n:=by
   rcases cF j n with h|h
   ·exact h
   ·exact aN hj (tail_waits hs hc hn qk _ i rfl dd jF j h)
  refine⟨qX,?_⟩;by_cases ql:j=i
  ·subst ql;exact⟨oi,v,hi,hy,H⟩
  ·have h1:=(H.2 j (ready_mono hj ql)).2
   obtain⟨JU,oj,Em,zQ⟩:=mem_ready.1 hj;have SO:∀e∈oj.after,Region.binds md e=true->e.on≠i:=fun e he hb Oc=>by
    have h1:=zQ e he hb;rw[Oc,getD_both jF] at h1
    cases h1
   have h2:=SK Em (JT j oj Em ql JU SO) (fun cs b=>rX i oi cs b hi) (fun cs b=>rX j oj cs b Em) hy h1;have SP:∀k ok,ag[k]?=some ok->k≠i->(cP.setIfInBounds j true).getD k true=false ->
     (∀e∈ok.after,Region.binds md e=true->e.on≠i)->oi.apart ag ok=true:=fun k ok hk vH jF wZ=>by
    refine JT k ok hk vH ?_ wZ;by_cases JV:j=k
    ·subst JV;exact JU
    ·rw[getD_set_ne true JV] at jF;exact jF
   refine SH (fun a' h3=>ih (cP.setIfInBounds j true) a' (qk.set hj qX) SP (ready_mono hr (Ne.symm ql)) h3.1 ?_) h2;rw[Array.setIfInBounds_comm _ _ ql];exact h3.2
def qn(P:Program)(ag:Array Oper)(C:World->Prop)(w0 w1:World)(B:Nat)(Q:Act->Prop):List Oper->Nat->Act->Prop
 | [],_,a=>Q a
 | o::l,k,a=>∃v,Y2 P ag C w0 w1 B k o v a/\qn P ag C w0 w1 B Q l (k+1) (a.put o.dst v)
theorem JW{cP:Array Bool}{i:Nat}(h:i<cP.size):(cP.setIfInBounds i true).getD i false=true:=by
 simp[h]
theorem JX{n g:Nat}{Lq:Act->Prop}(rX:Region.noSelect ag=true)(hs:Region.sinkB md ag n=true)(hc:Region.chainB md ag n=true)(hn:n<ag.size)(AO:B<n) :
  ∀(l:List Oper) (k:Nat) (cP:Array Bool) (a:Act),(∀j,j<l.length->l[j]?=ag[k+j]?)->k+l.length=n->HeadInv md ag n cP->(B<k->cP.getD B false=true) ->
  Region.lexHead md ag g l.length k cP=true->qn P ag C w0 w1 B Lq l k a ->
  xI P md ag C w0 w1 B n (fun Eo a'=>Region.seqB md ag g n Eo=true/\Eo.getD B false=true/\Lq a') l.length cP a
 | [],k,cP,a,_,hk,_,bU,hB,h=>by
  have:k=n:=by simpa using hk
  subst this;exact⟨by simpa[Region.lexHead] using hB,bU AO,h⟩
 | o::l,k,cP,a,hl,hk,qk,bU,hB,h=>by
  have h0:ag[k]?=some o:=by simpa using (hl 0 (by simp)).symm
  simp only[qe,Region.lexHead,fh] at hB;obtain⟨⟨hr,hf⟩,qN⟩:=hB;have ml:k<n:=by simp only[qe] at hk;omega
  have rP:k∈Region.ready md ag cP:=by simpa using hr
  obtain⟨v,hy,hK⟩:=h;refine SM h0 (Region.noSelect_spec rX) hs hc hn ml (fun Eo a' hL=>seqB_ready hL.1) l.length cP a qk (Region.free_spec h0 hf) rP hy
   (JX rX hs hc hn AO l (k+1) _ _ (fun j hj=>by have:=hl (j+1) (by simp;omega);simpa[Nat.add_assoc,Nat.add_comm 1 j] using this) (by simp only[qe] at hk;omega) (qk.set rP ml) (fun hb=>?_) qN hK)
  by_cases e:k=B
  ·subst e
   exact JW (by rw[qk.size];omega)
  ·exact getD_set_true (bU (by omega))
theorem SQ{i:Nat}{a:Act}{K:Act->Prop}{Q':Exit->Act->World->Prop}{K':Act->World->Prop}{w:World}(hC:C w)(hi:i≠B)(h:∀a,K a->K' a w)(hh:uA P ag C w0 w1 B i K a):wpOp P ag Q' i K' a w:=by
 obtain⟨o,v,ho,hy,hK⟩:=hh;unfold wpOp;simp only[ho];rcases hy with⟨e,-⟩|⟨-,⟨hw,hq⟩|⟨hw,rfl⟩⟩
 ·exact aN e hi
 ·simp only[hw,if_true]
  have h3:=hq w hC;unfold Oper.quietAt at h3;refine .inl ?_;unfold Oper.wp;generalize (execOp a.eval o).run P w=r at *
  cases r with
  | ok m w'=>
   cases m<;>simp only[Oper.quietUpon] at h3<;>simp only[Oper.upon]
   case value u=>
    obtain⟨e1,e2⟩:=h3;rw[e1,e2];exact h _ hK
   case skip=>
    obtain⟨e1,e2⟩:=h3;rw[e1,<-e2];exact h _ hK
   case enter f args=>
    obtain⟨e1,hc⟩:=h3;rw[e1];exact hc.mono fun e qM ⟨he,hf⟩=>by subst he hf;exact h _ hK
  | halt x w'=>simp only[Oper.quietUpon] at h3
 ·simp only[hw,Bool.false_eq_true,if_false]
  exact h _ hK
theorem Ep{n g:Nat}{L:Array Bool->Act->Prop}{Q':Exit->Act->World->Prop}(JY:B<ag.size)(xJ:C w0)(xK:C w1)(hL:∀cP a,L cP a->cP.getD B false=true/\wpAny P md ag Q' g cP a w1) :
  ∀(f:Nat) (cP:Array Bool) (a:Act),cP.size=ag.size->xI P md ag C w0 w1 B n L f cP a->wpAny P md ag Q' (f+g) cP a (if cP.getD B false=true then w1 else w0)
 | 0,cP,a,_,h=>by
  obtain⟨h1,h2⟩:=hL _ _ h;rw[Nat.zero_add,ay h1];exact h2
 | f+1,cP,a,hz,h=>by
  rw[show f+1+g=(f+g)+1 by omega];refine⟨fun h0=>aN h0 h.1,fun i hi=>?_⟩;have jF:=(mem_ready.1 hi).1;by_cases e:i=B
  ·have e':=e.symm
   clear e;subst e';rw[ak (by rw[getD_both jF];simp)];obtain⟨o,v,ho,hy,hK⟩:=(h.2 B hi).2;rcases hy with⟨-,hw,hr⟩|⟨e,-⟩
   ·unfold wpOp
    simp only[ho,hw,if_true];refine .inl ?_;unfold Oper.wp;rw[hr];show wpAny P md ag Q' (f+g) (cP.setIfInBounds B true) (a.put o.dst v) w1;have:=Ep JY xJ xK hL f _ _ (by simp[hz]) hK;rw[ay (JW (by omega))] at this;exact this
   ·exact aN rfl e
  ·refine SQ (C:=C) ?_ e (fun a' h'=>?_) (h.2 i hi).2
   ·split
    ·exact xK
    ·exact xJ
   ·have:=Ep JY xJ xK hL f _ a' (by simp[hz]) h'
    rw[getD_set_ne false e] at this;exact this
theorem CC{id:Nat}{Q:Exit->Act->World->Prop}{a:Act}{w:World}{l:List Oper}(B n:Nat)(C:World->Prop)(w1:World)(hm:P.follows .mixedOrders=true)(hB:Region.lexTailB .any l.toArray n=true)(AO:B<n)(xJ:C { w with drawn:=w.drawn+1 })(xK:C w1)
  (h:qn P l.toArray C { w with drawn:=w.drawn+1 } w1 B (fun a'=>wpList P l.toArray Q (l.drop n) a' w1) (l.take n) 0 a):(Code.region id l.toArray true).wp P Q a w:=by
 simp only[Region.lexTailB,fh,decide_eq_true_eq] at hB;obtain⟨⟨⟨⟨rX,hn⟩,hs⟩,hc⟩,SR⟩:=hB;have oO:n<l.length:=by simpa using hn
 have xL:(l.take n).length=n:=by simp;omega
 have yD:(l.drop n).length=l.toArray.size-n:=by simp
 have SS:HeadInv .any l.toArray n (Array.replicate l.toArray.size false):=
  ⟨by simp,fun j oj _ hl=>(by rw[getD_replicate_false] at hl;cases hl),fun t _ ht=>getD_in (by simpa using ht) (getD_replicate_false _ _)⟩
 have H:=JX (md:=.any) (g:=l.toArray.size-n) rX hs hc hn AO (l.take n) 0 _ a (fun j hj=>by
  have rA:j<n:=by rw[xL] at hj;exact hj
  simp[rA]) (by simpa using xL) SS (fun hb=>by omega) (by rw[xL];exact SR) h
 refine wp_region_any hm ?_;have:=Ep (Q':=Q) (g:=l.toArray.size-n) (C:=C) (by omega) xJ xK (fun cP a' hL=>⟨hL.2.1,by
  have:=wpAny_of_seq (md:=.any) (Q':=Q) (l.drop n) n cP a' w1 (fun j=>by simp[List.getElem?_drop]) (by rw[yD];exact hL.1) hL.2.2
  rwa [yD] at this⟩) _ _ _ (by simp) H
 rw[xL,show n+(l.toArray.size-n)=l.toArray.size by omega,getD_replicate_false,ak (by simp)] at this;exact this
theorem yZ{Q:Act->Prop}{a:Act}{o:Oper}{rest:List Oper}{k:Nat}(hk:k≠B)
  (h:∀K:Act->Prop,(∀a,qn P ag C w0 w1 B Q rest (k+1) a->K a)->if Region.wanted o (yielded ag a.tmps) then (∃v,(∀w,C w->o.quietAt P a (fun qM=>qM=w) w v)/\K (a.put o.dst v)) else K (a.put o.dst undef)):qn P ag C w0 w1 B Q (o::rest) k a:=by
 have h':=h _ (fun _ h=>h)
 split at h'
 ·rename_i hw
  obtain⟨v,h1,h2⟩:=h';exact⟨v,.inr ⟨hk,.inl ⟨hw,h1⟩⟩,h2⟩
 ·rename_i hw
  exact⟨undef,.inr ⟨hk,.inr ⟨by simpa using hw,rfl⟩⟩,h'⟩
theorem CD{Q:Act->Prop}{a:Act}{o:Oper}{rest:List Oper}(v:Value)(hw:Region.wanted o (yielded ag a.tmps)=true)(hr:(execOp a.eval o).run P w0=.ok (.value v) w1)
  (h:qn P ag C w0 w1 B Q rest (B+1) (a.put o.dst v)):qn P ag C w0 w1 B Q (o::rest) B a:=
 ⟨v,.inl ⟨rfl,hw,hr⟩,h⟩
theorem CE{Q:Act->Prop}{a:Act}{k:Nat}(h:Q a):qn P ag C w0 w1 B Q [] k a:=h
end
end Go.Proofs.YtcnhfffgbamonabGreat.call
namespace Go.Proofs.YtcnhfffgbamonabGreat
open Go.Proofs.Tryz
open Go.RowKit
def jR(x:Int):Prop:=-9223372036854775808<=x/\x<=9223372036854775807
theorem Tryz.Lk:(prog.info? 61).map (·.size)=some 5:=by kernel_rfl
theorem avu{wz w:World}{b k:Nat}{c:Ct}(h:St wz w b k c)(hk:k<=2900000)(K A B C:Int)(s:ByteArray)(hA:jR A)(hB:jR B)(hC:jR C)(hs:s.size<=1000000000)(hK:K=2\/K=3\/K=4\/K=5\/K=6) :
  Calls prog 41 #[.pointer (some ⟨b,0,none⟩),.agg (ov K A B C s)] w fun e w'=>e=.returned (.bool true)/\∃c',St wz w' b (k+1) c':=by
 rcases hK with rfl|rfl|rfl|rfl|rfl
 ·exact auO h hk A B C s hs
 ·exact auR h hk A B C s hA.1 hA.2 hB.1 hB.2
 ·exact auP h A B C s ⟨A,rfl,hA⟩ ⟨B,rfl,hB⟩ ⟨C,rfl,hC⟩
 ·rcases Nat.eq_zero_or_pos c.ls.length with hz|hz
  ·exact auV h hk A B C s hz
  ·exact auY h hk A B C s hA.1 hA.2 hz
 ·exact auQ h A B C s
theorem avv{wz w:World}{b k:Nat}{c:Ct}(h:St wz w b k c)(hk:k<=2900000)(K A B C:Int)(s:ByteArray)(hA:jR A)(hB:jR B)(hC:jR C)(hs:s.size<=1000000000)(hK:K=2\/K=3\/K=4\/K=5\/K=6) :
  Calls prog 22 #[.pointer (some ⟨b,0,none⟩),.agg (ov K A B C s)] w fun e w'=>e=.returned (.bool true)/\∃c',St wz w' b (k+1) c':=by
 have g0:=aQ w (.cells (ov K A B C s) 61) none;have lR:=ae (aj.bB w 61 (ov K A B C s));have HO:=ae (avu (h.grow g0) hk K A B C s hA hB hC hs hK);clear g0 h hA hB hC hK;go_enter func22,ntmps22;go_wp2_with (refine dj rfl 61 _ rfl w.heap.size rfl 61 (ov K A B C s) (0,0) _ lR.out underlying61 rfl Tryz.Lk ?_);refine HO.out.mono ?_;rintro e w2⟨rfl,c',Bl⟩;have eX:=ae Bl;clear Bl HO lR;go_wp2;go_ret;exact⟨rfl,c',eX.out⟩
theorem avw{wz w:World}{b k:Nat}{c:Ct}(h:St wz w b k c)(hk:k<=2900000)(A B C:Int)(s:ByteArray)(hs:s.size<=1000000000) :
  Calls prog 22 #[.pointer (some ⟨b,0,none⟩),.agg (ov 1 A B C s)] w fun e w'=>e=.returned (.bool true)/\∃c',St wz w' b (k+1) c':=by
 have g0:=aQ w (.cells (ov 1 A B C s) 61) none;have lR:=ae (aj.bB w 61 (ov 1 A B C s));have HO:=ae (Vr (w.alloc (.cells (ov 1 A B C s) 61)) b 1 A B C s (by decide) (by decide) (by decide) (by decide) (by decide));have HS:=ae (h.grow g0);clear g0 h;go_enter func22,ntmps22;go_wp2_with (refine dj rfl 61 _ rfl w.heap.size rfl 61 (ov 1 A B C s) (0,0) _ lR.out underlying61 rfl Tryz.Lk ?_);refine HO.out.mono ?_;rintro e w2⟨rfl,aM⟩;have fA:=lR.out.kept aM (by simp);have p0:w2.cell? ⟨w.heap.size,0,none⟩=some (.int .i64 1):=fA.cell 0;have p4:w2.cell? ⟨w.heap.size,4,none⟩=some (.string s):=fA.cell 4;have HC:=ae (avd (HS.out.grow aM) (by omega) s (by omega));clear fA aM HO lR HS;go_wp2_with fail;refine HC.out.mono ?_;rintro e w3⟨rfl,h3⟩;have HE:Hid (∃c',St wz w3 b (k+1) c'):=by
  rcases h3 with⟨-,h3⟩|⟨_,_,_,_,_,h3⟩
  ·exact⟨_,h3⟩
  ·exact⟨_,h3⟩
 clear h3 HC p0 p4;go_wp2;go_ret;exact⟨rfl,HE.out⟩
theorem avx{wz w:World}{b k:Nat}{c:Ct}(h:St wz w b k c)(K A B C:Int)(s:ByteArray)(h1:K≠1)(h2:K≠2)(h3:K≠3)(h4:K≠4)(h5:K≠5)(h6:K≠6)(hz:c.ps.length=0) :
  Calls prog 22 #[.pointer (some ⟨b,0,none⟩),.agg (ov K A B C s)] w fun e w'=>e=.returned (.bool true)/\∃c',St wz w' b (k+1) c':=by
 have g0:=aQ w (.cells (ov K A B C s) 61) none;have lR:=ae (aj.bB w 61 (ov K A B C s));have HO:=ae (Vr (w.alloc (.cells (ov K A B C s) 61)) b K A B C s h2 h3 h4 h5 h6);have HS:=ae (h.grow g0);have b1:(K==1)=false:=by simpa using h1
 clear g0 h h1 h2 h3 h4 h5 h6;go_enter func22,ntmps22;go_wp2_with (refine dj rfl 61 _ rfl w.heap.size rfl 61 (ov K A B C s) (0,0) _ lR.out underlying61 rfl Tryz.Lk ?_);refine HO.out.mono ?_;rintro e w2⟨rfl,aM⟩;have fA:=lR.out.kept aM (by simp);have p0:w2.cell? ⟨w.heap.size,0,none⟩=some (.int .i64 K):=fA.cell 0;have Bm:=HS.out.grow aM;obtain⟨ao,cc,ev⟩:=gY Bm.kp;have q0:w2.cell? ⟨b,0,none⟩=some (.slice ao c.ps.length cc):=by rw[<-ev];exact Bm.L.cell 0
 rw[hz] at q0;have HE:=ae (Bm.vj (k':=k+1) (by omega));clear fA aM HO lR HS Bm ev hz;go_wp2;go_ret;exact⟨rfl,_,HE.out⟩
theorem avy{wz w:World}{b k:Nat}{c:Ct}(h:St wz w b k c)(hk:k<=2800000)(K A B C:Int)(s:ByteArray)(h1:K≠1)(h2:K≠2)(h3:K≠3)(h4:K≠4)(h5:K≠5)(h6:K≠6)(hA:jR A)(hs:s.size<=1000000000)(hz:0<c.ps.length) :
  Calls prog 22 #[.pointer (some ⟨b,0,none⟩),.agg (ov K A B C s)] w fun e w'=>e=.returned (.bool true)/\∃c',St wz w' b (k+1) c':=by
 have g0:=aQ w (.cells (ov K A B C s) 61) none;have lR:=ae (aj.bB w 61 (ov K A B C s));have HO:=ae (Vr (w.alloc (.cells (ov K A B C s) 61)) b K A B C s h2 h3 h4 h5 h6);have HS:=ae (h.grow g0);have b1:(K==1)=false:=by simpa using h1
 have hnp:=h.np;clear g0 h h1 h2 h3 h4 h5 h6;go_enter func22,ntmps22;go_wp2_with (refine dj rfl 61 _ rfl w.heap.size rfl 61 (ov K A B C s) (0,0) _ lR.out underlying61 rfl Tryz.Lk ?_);refine HO.out.mono ?_;rintro e w2⟨rfl,aM⟩;have fA:=lR.out.kept aM (by simp);have p0:w2.cell? ⟨w.heap.size,0,none⟩=some (.int .i64 K):=fA.cell 0;have p1:w2.cell? ⟨w.heap.size,1,none⟩=some (.int .i64 A):=fA.cell 1;have Bm:=HS.out.grow aM;obtain⟨j,hj,ke⟩:=Pt A c.ps.length hz;obtain⟨p,hp⟩:∃p,c.ps[j]?=some p:=⟨_,aT ke⟩;obtain⟨gp,cpp,evp,hR⟩:=Bm.avs hp;have q0:w2.cell? ⟨b,0,none⟩=some (.slice (some ⟨gp,0,none⟩) c.ps.length cpp):=by rw[<-evp];exact Bm.L.cell 0
 have HP:=ae (fun(W:World)=>agh A c.ps.length W hA.1 hA.2 (by omega) (by omega));rw[hj] at HP;have iV:=ae fA;have hZ:=ae Bm;have HR:=ae hR;have Vx:=ae (bV hp);clear fA aM HO lR HS Bm evp hR hp hj hA;obtain⟨n,Hn⟩:∃n,Hid (c.ps.length=n):=⟨_,rfl⟩;rw[Hn.out] at q0 HP hz ke hnp;have d0:w2.cell? ⟨gp,j*2,none⟩=some (.pointer (some ⟨p.q,0,none⟩)):=HR.out 0 _ rfl;have d1:w2.cell? ⟨gp,j*2+1,none⟩=some (.pointer (some ⟨p.gb,0,none⟩)):=HR.out 1 _ rfl;go_wp2_with fail;have r1:=cell_regrown p1;have r2:=cell_regrown q0;have r3:=cell_regrown d0;have r4:=cell_regrown d1;clear p1 q0 d0 d1;refine call.CC 14 15 (fun W=>∃p:Regrown,W=Go.Sort.grow (redrawn w2 p.d) p.os) (w2.drew.alloc (.cells #[.pointer none,.pointer none] 99)) (by kernel_rfl) (by kernel_rfl) (by decide) ⟨⟨w2.drawn+1,#[]⟩,by rw[Go.Sort.grow_empty];rfl⟩ ⟨⟨w2.drawn+1,#[.cells #[.pointer none,.pointer none] 99]⟩,rfl⟩ ?_;simp only[List.take_succ_cons,List.take_zero,List.drop_succ_cons,List.drop_zero]
 repeat (refine call.yZ (by decide) (fun K hK=>?_);go_simp;refine hK _ ?_;clear hK K)
 refine call.yZ (by decide) (fun K hK=>?_);go_simp;refine⟨.int .i64 j,fun a=>HP.out _,hK _ ?_⟩;clear hK K
 repeat (refine call.yZ (by decide) (fun K hK=>?_);go_simp;refine hK _ ?_;clear hK K)
 refine call.CD (.pointer (some ⟨w2.heap.size,0,none⟩)) ?hw ?hr ?_
 case hw=>rfl
 case hr=>go_simp
 refine call.CE ?_;clear r1 r2 r3 r4 HP;have gd:w2.grownBy (w2.alloc (.cells #[.pointer (some ⟨p.q,0,none⟩),.pointer (some ⟨p.gb,0,none⟩)] 99)).drew none:=aC (aQ w2 _ none) (gH _ none);have lA:=ae (hZ.out.grow gd);have iA:=iV.out.kept gd (by simp);have Ea:aj (w2.alloc (.cells #[.pointer (some ⟨p.q,0,none⟩),.pointer (some ⟨p.gb,0,none⟩)] 99)).drew w2.heap.size 99 #[.pointer (some ⟨p.q,0,none⟩),.pointer (some ⟨p.gb,0,none⟩)]:=aj.bB w2 99 #[.pointer (some ⟨p.q,0,none⟩),.pointer (some ⟨p.gb,0,none⟩)];have kZ:=iV.out.lt;have e0:(w2.alloc (.cells #[.pointer (some ⟨p.q,0,none⟩),.pointer (some ⟨p.gb,0,none⟩)] 99)).drew.cell? ⟨w2.heap.size,0,none⟩=some (.pointer (some ⟨p.q,0,none⟩)):=Ea.cell 0;have e1:(w2.alloc (.cells #[.pointer (some ⟨p.q,0,none⟩),.pointer (some ⟨p.gb,0,none⟩)] 99)).drew.cell? ⟨w2.heap.size,1,none⟩=some (.pointer (some ⟨p.gb,0,none⟩)):=Ea.cell 1;have e4:(w2.alloc (.cells #[.pointer (some ⟨p.q,0,none⟩),.pointer (some ⟨p.gb,0,none⟩)] 99)).drew.cell? ⟨w.heap.size,4,none⟩=some (.string s):=iA.cell 4;have p4:w2.cell? ⟨w.heap.size,4,none⟩=some (.string s):=iV.out.cell 4;clear gd iA Ea HR hZ iV;by_cases h7:K=7
 ·subst h7
  go_wp2_with (refine aaY rfl 99 _ _ rfl w2.heap.size #[.pointer (some ⟨p.q,0,none⟩),.pointer (some ⟨p.gb,0,none⟩)] rfl rfl 99 #[.pointer none,.pointer none] (aj.bB w2.drew 99 _) Tryz.Py rfl rfl ?_;rw[World.setRow_alloc_new]);generalize (w2.alloc (.cells #[.pointer (some ⟨p.q,0,none⟩),.pointer (some ⟨p.gb,0,none⟩)] 99)).drew=w3 at *;obtain⟨avB,Vy,qh,Pu⟩:=lA.out.lin;obtain⟨ar,cr,er⟩:=gY lA.out.kr;have c6:w3.cell? ⟨b,6,none⟩=some (.slice ar c.rg.length cr):=by rw[<-er];exact lA.out.L.cell 6
  have OE:=lA.out.nr;rw[er] at Vy;have Ld:=ae (avp (lA.out.grow (gH w3 none)) (by omega) Vx.out ar c.rg.length cr avB (Vy.Z (gH w3 none)) (fun l hl=>by have:=Pu l hl;omega) (by omega));clear Vy qh Pu er lA;go_still_tail 6,(by kernel_rfl);show wpList _ _ _ _ _ (World.drew _);clear c6 e0 e1 e4;generalize w3.drew=w7 at *;go_wp2_with fail;refine Ld.out.mono ?_;rintro e w8⟨rfl,-,avC,avD,ayu,avE,ayv,Dk⟩;have HE:=ae Dk;clear Dk Ld;go_wp2;go_ret;exact⟨rfl,_,HE.out⟩
 ·have b7:(K==7)=false:=by simpa using h7
  clear h7;by_cases h8:K=8
  ·subst h8
   have HC:=ae (auM lA.out (by omega) Vx.out);go_wp2_with (refine aaY rfl 99 _ _ rfl w2.heap.size #[.pointer (some ⟨p.q,0,none⟩),.pointer (some ⟨p.gb,0,none⟩)] rfl rfl 99 #[.pointer none,.pointer none] (aj.bB w2.drew 99 _) Tryz.Py rfl rfl ?_;rw[World.setRow_alloc_new]);refine HC.out.mono ?_;rintro e w8⟨rfl,vt',ayx,tl',Dk⟩;have HE:=ae Dk;clear Dk HC lA;go_wp2;go_ret;exact⟨rfl,_,HE.out⟩
  ·have b8:(K==8)=false:=by simpa using h8
   clear h8;by_cases h9:K=9
   ·subst h9
    have HC:=ae (avr lA.out (by omega) Vx.out s hs);go_wp2_with (refine aaY rfl 99 _ _ rfl w2.heap.size #[.pointer (some ⟨p.q,0,none⟩),.pointer (some ⟨p.gb,0,none⟩)] rfl rfl 99 #[.pointer none,.pointer none] (aj.bB w2.drew 99 _) Tryz.Py rfl rfl ?_;rw[World.setRow_alloc_new]);refine HC.out.mono ?_;rintro e w8⟨rfl,-,avC,avD,ayz,avE,ayA,Dk⟩;have HE:=ae Dk;clear Dk HC lA;go_wp2;go_ret;exact⟨rfl,_,HE.out⟩
   ·have b9:(K==9)=false:=by simpa using h9
    clear h9;have HE:=ae (lA.out.vj (k':=k+1) (by omega));clear lA;go_wp2_with (refine aaY rfl 99 _ _ rfl w2.heap.size #[.pointer (some ⟨p.q,0,none⟩),.pointer (some ⟨p.gb,0,none⟩)] rfl rfl 99 #[.pointer none,.pointer none] (aj.bB w2.drew 99 _) Tryz.Py rfl rfl ?_;rw[World.setRow_alloc_new]);go_ret;exact⟨rfl,_,HE.out⟩
theorem avF{wz w:World}{b k:Nat}{c:Ct}(h:St wz w b k c)(hk:k<=2800000)(K A B C:Int)(s:ByteArray)(hA:jR A)(hB:jR B)(hC:jR C)(hs:s.size<=1000000000) :
  Calls prog 22 #[.pointer (some ⟨b,0,none⟩),.agg (ov K A B C s)] w fun e w'=>e=.returned (.bool true)/\∃c',St wz w' b (k+1) c':=by
 by_cases ho:K=2\/K=3\/K=4\/K=5\/K=6
 ·exact avv h (by omega) K A B C s hA hB hC hs ho
 ·by_cases h1:K=1
  ·subst h1;exact avw h (by omega) A B C s hs
  ·rcases Nat.eq_zero_or_pos c.ps.length with hz|hz
   ·exact avx h K A B C s h1 (by omega) (by omega) (by omega) (by omega) (by omega) hz
   ·exact avy h hk K A B C s h1 (by omega) (by omega) (by omega) (by omega) (by omega) hA hs hz
section
variable {P:Program}
theorem avG(w:World)(ad:Addr)(ty:TypeId)(cs:List Value)(d:TypeDesc)(hc:∀j v,cs[j]?=some v->w.cell? (ad.add j)=some v)(hu:P.underlying ty=some d)(hd:d.isRow=true)(hi:(P.info? ty).map (·.size)=some cs.length) :
  (loadVar ty ad).run P w=.ok (.agg cs.toArray) w:=by
 have hl:=run_loadCells_list (P:=P) w ad cs hc;rcases hq:P.info? ty with _|i
 ·simp[hq] at hi
 ·have hs:i.size=cs.length:=by simpa[hq] using hi
  have avH:(isAgg ty).run P w=.ok true w:=by
   unfold isAgg;rw[Sem.run_bind,run_underlying hu w]
   cases d<;>simp_all
  simp[loadVar,Sem.run_bind,avH,sizeOf,typeInfo,hq,hs,hl]
theorem avI{ag:Array Oper}{rest:List Oper}{op:Oper}{a:Act}{w:World}{Q:Exit->Act->World->Prop}(eH:op.guard=none)(ty:TypeId)(x:Operand)(ho:op.op=.load ty x)
  (ad:Addr) (hx:a.eval x=.pointer (some ad)) (cs:List Value) (d:TypeDesc) (hc:∀j v,cs[j]?=some v->w.cell? (ad.add j)=some v) (hu:P.underlying ty=some d) (hd:d.isRow=true) (hi:(P.info? ty).map (·.size)=some cs.length)
  (h:wpList P ag Q rest (a.put op.dst (.agg cs.toArray)) w):wpList P ag Q (op::rest) a w:=
 wpList_plain eH fun _ hK=>by
  unfold Oper.wp execOp;simp only[ho,hx,Instr.loadAt,Instr.sureAddr,Sem.run_bind,Sem.run_pure,Result.andThen_ok,avG w ad ty cs d hc hu hd hi];exact hK _ _ h
end
structure sy where
 K:Int
 A:Int
 B:Int
 C:Int
 s:ByteArray
def sy.ok(o:sy):Prop:=jR o.A/\jR o.B/\jR o.C/\o.s.size<=1000000000
def zG(w:World)(v:Value)(ag:List sy):Prop:=
 ∃(ao:Option Addr) (cp:Nat),v=.slice ao ag.length cp/\∀(i:Nat) o,ag[i]?=some o->∃a,ao=some a/\∀j u,(ov o.K o.A o.B o.C o.s).toList[j]?=some u->w.cell? ((a.add (i*5)).add j)=some u
theorem zG.Z{w w':World}{v:Value}{ag:List sy}(h:zG w v ag)(hg:w.grownBy w' none):zG w' v ag:=by
 obtain⟨ao,cp,e,h⟩:=h;exact⟨ao,cp,e,fun i o ho=>by obtain⟨a,ea,ha⟩:=h i o ho;exact⟨a,ea,fun j u hu=>aG hg (ha j u hu)⟩⟩
theorem zG.len{w:World}{ao:Option Addr}{n c:Nat}{ag:List sy}(h:zG w (.slice ao n c) ag):n=ag.length:=by
 obtain⟨_,_,e,_⟩:=h;injection e with _ e _
theorem zG.get{w:World}{ao:Option Addr}{n c:Nat}{ag:List sy}(h:zG w (.slice ao n c) ag)(i:Nat)(o:sy)(ho:ag[i]?=some o):∃a,ao=some a/\∀j u,(ov o.K o.A o.B o.C o.s).toList[j]?=some u->w.cell? ((a.add (i*5)).add j)=some u:=by
 obtain⟨_,_,e,h⟩:=h;injection e with e _ _;subst e;exact h i o ho
theorem avJ(ao:Option Addr)(n cp:Nat)(ag:List sy)(w:World)(hS:zG w (.slice ao n cp) ag)(vZ:∀o∈ag,o.ok)(_hn:ag.length<=9223372036854775807) :
  Calls prog 8 #[.slice ao n cp] w fun e w'=>e=.returned (.int .i64 (-1))/\w.grownBy w' none:=by
 obtain rfl:=hS.len;have HS:=ae hS;have jq:=ae vZ;have H0:=ae (St.bB w);clear hS vZ;go_enter func8,ntmps8;go_wp2;go_loopw[4] (fun i wr=>∃(k:Nat) (c:Ct),Hid (k<=ag.length/\k<=1048576)/\i=.int .i64 k/\Hid (St w wr w.heap.size (k+1) c)) (fun i _=>ag.length-(intOf i).toNat)
 case atStart=>exact⟨0,ct0,⟨bK _,bK _⟩,rfl,H0.out⟩
 case round=>
  clear H0;obtain⟨k,c,Hk,rfl,eX⟩:=hrel;obtain⟨hk,rC⟩:=Hk.out;by_cases aK:k<ag.length/\k<1048576
  ·obtain⟨hl,Az⟩:=aK
   obtain⟨o,ho⟩:∃o,ag[k]?=some o:=⟨_,aT hl⟩;obtain⟨a,ea,kS⟩:=(HS.out.Z eX.out.gz).get k o ho;subst ea;obtain⟨oA,oB,oC,os⟩:=jq.out o (bV ho);have HC:=ae (avF eX.out (by omega) o.K o.A o.B o.C o.s oA oB oC os);have ox:=ae kS;have SV:(k:Int)<1048576:=by omega
   have Fm:=ae Az;clear kS ho oA oB oC os eX rC Az;go_wp2_with (refine avI rfl 61 _ rfl (a.add (k*5)) rfl (ov o.K o.A o.B o.C o.s).toList _ ox.out underlying61 rfl Tryz.Lk ?_);refine HC.out.mono ?_;rintro e w2⟨rfl,c',Bl⟩;have HL:=ae (avf Bl (by have:=Fm.out;omega));have eX:=ae Bl;clear Bl HC ox;go_wp2_with fail;refine HL.out.mono ?_;rintro e w3⟨rfl,aU⟩;have Pf:=ae (eX.out.grow aU);clear aU HL eX;go_wp2;go_roundw
   case rel=>exact⟨k+1,c',⟨by omega,by have:=Fm.out;omega⟩,by go_num,Pf.out⟩
   case measure=>simp[intOf];omega
  ·have HG:=ae eX.out.gz
   clear eX;have hc:(k=ag.length/\True)\/(k<ag.length/\¬((k:Int)<1048576)):=by
    by_cases e:k=ag.length
    ·exact .inl ⟨e,trivial⟩
    ·exact .inr ⟨by omega,fun h=>aK ⟨by omega,by omega⟩⟩
   clear rC aK;rcases hc with⟨e1,e2⟩|⟨e1,e2⟩
   ·go_wp2
    go_ret;exact⟨rfl,HG.out⟩
   ·go_wp2
    go_ret;exact⟨rfl,HG.out⟩
theorem avK(ao:Option Addr)(n cp:Nat)(ag:List sy)(w:World)(hS:zG w (.slice ao n cp) ag)(vZ:∀o∈ag,o.ok)(hn:ag.length<=9223372036854775807) :
  Calls prog 5 #[.slice ao n cp] w fun e w'=>e=.returned (.bool true)/\w.grownBy w' none:=by
 have HC:=ae (avJ ao n cp ag w hS vZ hn);clear hS vZ;go_enter func5,ntmps5;go_wp2_with fail;refine HC.out.mono ?_;rintro e w2⟨rfl,hg⟩;have HG:=ae hg;clear hg HC;go_wp2;go_ret;exact⟨rfl,HG.out⟩
open Go.ChangeShapes Go.WideShapes Go.ChangeAt Go.RowKit
namespace scr
theorem dg:ownKnob prog.godebug=none:=by kernel_rfl
theorem agw:prog.cellsOf 61=5:=by kernel_rfl
theorem Pz:prog.cellsOf 3=1:=by kernel_rfl
theorem avL:prog.cellsOf 9=1:=by kernel_rfl
theorem avM:laidOutB prog=true:=by kernel_rfl
theorem avN{H:Type}(d:DataW H):1<=Rows.uptoBulk d:=by
 cases d with
 | lit l=>cases l<;>simp[Rows.uptoBulk]
 | nil=>simp[Rows.uptoBulk]
 | ptr d=>simp[Rows.uptoBulk]
 | slice Dl ayB=>simp[Rows.uptoBulk]
 | agg ayC=>simp[Rows.uptoBulk]
 | iface t d=>simp[Rows.uptoBulk]
 | map ayD=>simp[Rows.uptoBulk]
 | held h=>simp[Rows.uptoBulk]
theorem agx{H:Type}{d:DataW H}{l:List (DataW H)}(h:d∈l):Rows.uptoBulk d<=Rows.uptoBulkAll l:=by
 induction l with
 | nil=>cases h
 | cons x r ih=>
  simp only[Rows.uptoBulkAll];rcases List.mem_cons.1 h with e|e
  ·subst e;omega
  ·have:=ih e;omega
theorem avO{H:Type}(l:List (DataW H)):l.length<=Rows.uptoBulkAll l:=by
 induction l with
 | nil=>simp[Rows.uptoBulkAll]
 | cons x r ih=>have:=avN x;simp only[Rows.uptoBulkAll,qe];omega
theorem avP{H:Type}{enc:TypeId×Value->H}{W:World}{n:Nat}{cs:List Value}{x:DataW H×List MemPlace}(h:DataW.trod enc prog W 0 (fun _=>true) true n 61 cs=some x) :
  ∃o:sy,cs=(ov o.K o.A o.B o.C o.s).toList/\jR o.A/\jR o.B/\jR o.C/\o.s.size<=Rows.uptoBulk x.1:=by
 obtain⟨xs,n',-,hx,hl,jB,hf⟩:=DataW.trod_struct underlying61 h;rw[agw] at hl;obtain⟨c0,c1,c2,c3,c4,rfl⟩:∃c0 c1 c2 c3 c4,cs=[c0,c1,c2,c3,c4]:=by
  rcases cs with _|⟨c0,_|⟨c1,_|⟨c2,_|⟨c3,_|⟨c4,_|⟨c5,r⟩⟩⟩⟩⟩⟩<;>simp at hl;exact⟨_,_,_,_,_,rfl⟩
 obtain⟨y0,y1,y2,y3,y4,rfl⟩:∃y0 y1 y2 y3 y4,xs=[y0,y1,y2,y3,y4]:=by
  have avQ:xs.length=5:=by rw[jB];rfl
  rcases xs with _|⟨c0,_|⟨c1,_|⟨c2,_|⟨c3,_|⟨c4,_|⟨c5,r⟩⟩⟩⟩⟩⟩<;>simp at avQ;exact⟨_,_,_,_,_,rfl⟩
 have f0:DataW.trod enc prog W 0 (fun _=>true) true n' 3 (([c0,c1,c2,c3,c4].drop 0).take (prog.cellsOf 3))=some y0:=hf 0 _ rfl;rw[Pz] at f0;have f1:DataW.trod enc prog W 0 (fun _=>true) true n' 3 (([c0,c1,c2,c3,c4].drop 1).take (prog.cellsOf 3))=some y1:=hf 1 _ rfl;rw[Pz] at f1;have f2:DataW.trod enc prog W 0 (fun _=>true) true n' 3 (([c0,c1,c2,c3,c4].drop 2).take (prog.cellsOf 3))=some y2:=hf 2 _ rfl;rw[Pz] at f2;have f3:DataW.trod enc prog W 0 (fun _=>true) true n' 3 (([c0,c1,c2,c3,c4].drop 3).take (prog.cellsOf 3))=some y3:=hf 3 _ rfl;rw[Pz] at f3;have f4:DataW.trod enc prog W 0 (fun _=>true) true n' 9 (([c0,c1,c2,c3,c4].drop 4).take (prog.cellsOf 9))=some y4:=hf 4 _ rfl;rw[avL] at f4;obtain⟨K,e0,-,-⟩:=DataW.trod_int underlying3 f0;obtain⟨A,e1,-,wA⟩:=DataW.trod_int underlying3 f1;obtain⟨B,e2,-,wB⟩:=DataW.trod_int underlying3 f2;obtain⟨C,e3,-,wC⟩:=DataW.trod_int underlying3 f3;obtain⟨s,e4,x4,-⟩:=DataW.trod_string underlying9 f4;refine⟨⟨K,A,B,C,s⟩,?_,bounds_i64 wA,bounds_i64 wB,bounds_i64 wC,?_⟩
 ·simp at e0 e1 e2 e3 e4
  subst e0 e1 e2 e3 e4
  rfl
 ·rw[hx]
  have h4:=agx (d:=y4.1) (l:=[y0.1,y1.1,y2.1,y3.1,y4.1]) (by simp);have e5:y4.1=.lit (.string s.data.toList):=by simpa using congrArg Prod.fst x4
  rw[e5] at h4;simp only[Rows.uptoBulk] at h4 ⊢;have e:s.data.toList.length=s.size:=by rw[Array.length_toList];rfl
  simp only[List.map_cons,List.map_nil];rw[e5];show s.size<=_;omega
theorem avR{H:Type}{enc:TypeId×Value->H}{W:World}{v:Value}{d:DataW H}{p:List MemPlace}(hv:∃a len cap,v=.slice a len cap)(h:DataW.Trod enc prog W 0 (fun _=>true) true 24 v d p) :
  ∃ao cp,∃ag:List sy,v=.slice ao ag.length cp/\zG W v ag/\ag.length<=Rows.uptoBulk d/\∀o∈ag,jR o.A/\jR o.B/\jR o.C/\o.s.size<=Rows.uptoBulk d:=by
 obtain⟨n,h⟩:=h;obtain⟨a0,l0,c0,rfl⟩:=hv;rcases DataW.trod_slice underlying24 h with⟨kS,hx⟩|⟨a,len,cap,Dl,rest,n',-,kS,hx,-,hl,-,jB,hel,-,-⟩
 ·have e:Value.slice a0 l0 c0=.slice none 0 0:=by simpa[Value.cells] using kS
  exact⟨none,0,[],e,⟨none,0,e,fun i l hl=>by cases hl⟩,by simp,by simp⟩
 ·have e:Value.slice a0 l0 c0=.slice (some a) len cap:=by simpa[Value.cells] using kS
  have hd:d=.slice (Dl.map (·.1)) (rest.map (·.1)):=by have:=congrArg Prod.fst hx;simpa using this
  have cK:∀(i:Nat) y,Dl[i]?=some y->∃o:sy,(∀j u,(ov o.K o.A o.B o.C o.s).toList[j]?=some u->W.cell? ((a.add (i*5)).add j)=some u)/\jR o.A/\jR o.B/\jR o.C/\o.s.size<=Rows.uptoBulk y.1:=fun i y hy=>by
   have hi:i<len:=by have:=M.bP hy;omega
   have h1:=hel i hi;rw[hy,agw,Option.bind_eq_some_iff] at h1;obtain⟨ym,hc,ht⟩:=h1;obtain⟨-,km,Lz⟩:=World.cells?_some hc;obtain⟨o,rfl,r⟩:=avP ht;exact⟨o,fun j u hu=>by rw[Lz j (by have:=M.bP hu;omega),hu],r⟩
  obtain⟨ag,fC,dd⟩:∃ag:List sy,ag.length=Dl.length/\∀(i:Nat) o,ag[i]?=some o->∃y,Dl[i]?=some y/\(∀j u,(ov o.K o.A o.B o.C o.s).toList[j]?=some u->W.cell? ((a.add (i*5)).add j)=some u)/\jR o.A/\jR o.B/\jR o.C/\o.s.size<=Rows.uptoBulk y.1:=by
   have Vw:∀(es:List (DataW H×List MemPlace)) (f:Nat),(∀(i:Nat) y,es[i]?=some y->∃o:sy,(∀j u,(ov o.K o.A o.B o.C o.s).toList[j]?=some u->W.cell? ((a.add ((f+i)*5)).add j)=some u)/\jR o.A/\jR o.B/\jR o.C/\o.s.size<=Rows.uptoBulk y.1)->∃ag:List sy,ag.length=es.length/\∀(i:Nat) o,ag[i]?=some o->∃y,es[i]?=some y/\(∀j u,(ov o.K o.A o.B o.C o.s).toList[j]?=some u->W.cell? ((a.add ((f+i)*5)).add j)=some u)/\jR o.A/\jR o.B/\jR o.C/\o.s.size<=Rows.uptoBulk y.1:=fun es=>by
    induction es with
    | nil=>exact fun f _=>⟨[],rfl,fun i o ho=>by cases ho⟩
    | cons y es ih=>
     intro f hk;obtain⟨o,h1⟩:=hk 0 y rfl;obtain⟨ag,h4,h5⟩:=ih (f+1) (fun i y hy=>by have:=hk (i+1) y (by simpa using hy);rwa [show f+1+i=f+(i+1) by omega]);refine⟨o::ag,by simp[h4],fun i o' iK=>?_⟩
     cases i with
     | zero=>simp at iK;subst iK;exact⟨y,rfl,h1⟩
     | succ i=>
      obtain⟨y',e1,e2⟩:=h5 i o' (by simpa using iK);exact⟨y',by simpa using e1,by rwa [show f+(i+1)=f+1+i by omega]⟩
   obtain⟨ag,h4,h5⟩:=Vw Dl 0 (fun i y hy=>by rw[Nat.zero_add];exact cK i y hy);exact⟨ag,h4,fun i o ho=>by have:=h5 i o ho;rwa [Nat.zero_add] at this⟩
  have e1:ag.length=len:=by omega
  refine⟨some a,cap,ag,by rw[e1];exact e,⟨some a,cap,by rw[e1];exact e,fun i o ho=>?_⟩,?_,fun o ho=>?_⟩
  ·obtain⟨y,-,h1,-⟩:=dd i o ho
   exact⟨a,rfl,h1⟩
  ·rw[hd]
   simp only[Rows.uptoBulk];have:=avO (Dl.map (·.1));rw[jh] at this;omega
  ·obtain⟨i,hi⟩:=List.mem_iff_getElem?.1 ho
   obtain⟨y,hy,-,hA,hB,hC,hb⟩:=dd i o hi;have h6:=agx (d:=y.1) (List.mem_map.2 ⟨y,bV hy,rfl⟩:y.1∈Dl.map (·.1));refine⟨hA,hB,hC,?_⟩;rw[hd];simp only[Rows.uptoBulk];omega
end scr
end Go.Proofs.YtcnhfffgbamonabGreat
