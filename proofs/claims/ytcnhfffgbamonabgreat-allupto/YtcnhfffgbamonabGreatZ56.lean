import Derived.StillTailTactics
import Derived.Lib.QuietBelow
import Derived.Test.YtcnhfffgbamonabGreatZ00
set_option maxRecDepth 100000
set_option maxHeartbeats 6400000
namespace Go.Proofs.YtcnhfffgbamonabGreat
open Go.Proofs.Tryz
open Go
section
variable {P:Program} {ag:Array Oper} {md:Region.Mode} {C:World->Prop} {w0 w1:World} {B:Nat}
def Y2(P:Program)(ag:Array Oper)(C:World->Prop)(w0 w1:World)(B i:Nat)(o:Oper)(v:Value)(a:Act):Prop:=
 (i=B/\Region.wanted o (yielded ag a.tmps)=true/\(execOp a.eval o).run P w0=.ok (.value v) w1) \/
 (i≠B/\((Region.wanted o (yielded ag a.tmps)=true/\∀w,C w->o.quietAt P a (fun _=>False) w v)\/(Region.wanted o (yielded ag a.tmps)=false/\v=undef)))
theorem Y2.JR{i:Nat}{o:Oper}{v:Value}{a a':Act}(hy:Y2 P ag C w0 w1 B i o v a)(he:execOp a'.eval o=execOp a.eval o)
  (hw:Region.wanted o (yielded ag a'.tmps)=Region.wanted o (yielded ag a.tmps)):Y2 P ag C w0 w1 B i o v a':=by
 unfold Y2 Oper.quietAt at *;rw[he,hw];exact hy
def uA(P:Program)(ag:Array Oper)(C:World->Prop)(w0 w1:World)(B i:Nat)(K:Act->Prop)(a:Act):Prop:=
 ∃o v,ag[i]?=some o/\Y2 P ag C w0 w1 B i o v a/\K (a.put o.dst v)
theorem SH{i:Nat}{a:Act}{K K':Act->Prop}(h:∀a,K a->K' a)(hh:uA P ag C w0 w1 B i K a):uA P ag C w0 w1 B i K' a:=by
 obtain⟨o,v,h1,h2,h3⟩:=hh;exact⟨o,v,h1,h2,h _ h3⟩
theorem SK{i j:Nat}{oi oj:Oper}{v:Value}(hj:ag[j]?=some oj)(JS:oi.apart ag oj=true)
  (FI:∀cs b,oi.op≠.select cs b) (SL:∀cs b,oj.op≠.select cs b) {K:Act->Prop} {a:Act}
  (hy:Y2 P ag C w0 w1 B i oi v a) (h:uA P ag C w0 w1 B j K (a.put oi.dst v)) :
  uA P ag C w0 w1 B j (fun a'=>Y2 P ag C w0 w1 B i oi v a'/\K (a'.put oi.dst v)) a:=by
 obtain⟨h1,h2,h3⟩:=Oper.apart_spec JS;obtain⟨o,u,ho,hu,hK⟩:=h;have:o=oj:=Option.some.inj (ho.symm.trans hj);subst this;refine⟨o,u,ho,hu.JR (execOp_put o SL a oi.dst v h1).symm (wanted_put o a oi.dst v h1).symm,hy.JR (execOp_put oi FI a o.dst u h3) (wanted_put oi a o.dst u h3),?_⟩;rw[<-Act.put_comm a v u h2];exact hK
def xI(P:Program)(md:Region.Mode)(ag:Array Oper)(C:World->Prop)(w0 w1:World)(B n:Nat)(L:Array Bool->Act->Prop):Nat->Array Bool->Act->Prop
 | 0,cP,a=>L cP a
 | f+1,cP,a=>
  Region.ready md ag cP≠[]/\∀i∈Region.ready md ag cP,i<n/\uA P ag C w0 w1 B i (xI P md ag C w0 w1 B n L f (cP.setIfInBounds i true)) a
theorem SM{n i:Nat}{oi:Oper}{v:Value}{L:Array Bool->Act->Prop}(hi:ag[i]?=some oi)(rX:∀(j:Nat) (o:Oper) cs b,ag[j]?=some o->o.op≠.select cs b)
  (hs:Region.sinkB md ag n=true) (hc:Region.chainB md ag n=true) (hn:n<ag.size) (dd:i<n)
  (SN:∀cP a,L cP a->∀j∈Region.ready md ag cP,n<=j) :
  ∀(f:Nat) (cP:Array Bool) (a:Act),HeadInv md ag n cP ->
   (∀j oj,ag[j]?=some oj->j≠i->cP.getD j true=false->(∀e∈oj.after,Region.binds md e=true->e.on≠i)->oi.apart ag oj=true) ->
   i∈Region.ready md ag cP->Y2 P ag C w0 w1 B i oi v a ->
   xI P md ag C w0 w1 B n L f (cP.setIfInBounds i true) (a.put oi.dst v)->xI P md ag C w0 w1 B n L (f+1) cP a:=by
 intro f
 induction f with
 | zero=>
  intro cP a qk _ hr hy H;have jF:=(mem_ready.1 hr).1;refine⟨fun h=>(by rw[h] at hr;cases hr),fun j hj=>?_⟩;have qX:j<n:=by
   rcases cF j n with h|h
   ·exact h
   ·exact aN hj (tail_waits hs hc hn qk _ i rfl dd jF j h)
  refine⟨qX,?_⟩;by_cases ql:j=i
  ·subst ql;exact⟨oi,v,hi,hy,H⟩
  ·have:=SN _ _ H j (ready_mono hj ql)
   omega
 | succ f ih=>
  intro cP a qk JT hr hy H;have jF:=(mem_ready.1 hr).1;refine⟨fun h=>(by rw[h] at hr;cases hr),fun j hj=>?_⟩;have qX:j<n:=by
   rcases cF j n with h|h
   ·exact h
   ·exact aN hj (tail_waits hs hc hn qk _ i rfl dd jF j h)
  refine⟨qX,?_⟩;by_cases ql:j=i
  ·subst ql;exact⟨oi,v,hi,hy,H⟩
  ·have h1:=(H.2 j (ready_mono hj ql)).2
   obtain⟨JU,oj,Em,zQ⟩:=mem_ready.1 hj;have SO:∀e∈oj.after,Region.binds md e=true->e.on≠i:=fun e he hb Oc=>by
    have h1:=zQ e he hb;rw[Oc,getD_both jF] at h1
    cases h1
   have h2:=SK Em (JT j oj Em ql JU SO) (fun cs b=>rX i oi cs b hi) (fun cs b=>rX j oj cs b Em) hy h1;have SP:∀k ok,ag[k]?=some ok->k≠i->(cP.setIfInBounds j true).getD k true=false ->
     (∀e∈ok.after,Region.binds md e=true->e.on≠i)->oi.apart ag ok=true:=fun k ok hk vH jF wZ=>by
    refine JT k ok hk vH ?_ wZ;by_cases JV:j=k
    ·subst JV;exact JU
    ·rw[getD_set_ne true JV] at jF;exact jF
   refine SH (fun a' h3=>ih (cP.setIfInBounds j true) a' (qk.set hj qX) SP (ready_mono hr (Ne.symm ql)) h3.1 ?_) h2;rw[Array.setIfInBounds_comm _ _ ql];exact h3.2
def qn(P:Program)(ag:Array Oper)(C:World->Prop)(w0 w1:World)(B:Nat)(Q:Act->Prop):List Oper->Nat->Act->Prop
 | [],_,a=>Q a
 | o::l,k,a=>∃v,Y2 P ag C w0 w1 B k o v a/\qn P ag C w0 w1 B Q l (k+1) (a.put o.dst v)
theorem JW{cP:Array Bool}{i:Nat}(h:i<cP.size):(cP.setIfInBounds i true).getD i false=true:=by
 simp[h]
theorem JX{n g:Nat}{Lq:Act->Prop}(rX:Region.noSelect ag=true)(hs:Region.sinkB md ag n=true)(hc:Region.chainB md ag n=true)(hn:n<ag.size)(AO:B<n) :
  ∀(l:List Oper) (k:Nat) (cP:Array Bool) (a:Act),(∀j,j<l.length->l[j]?=ag[k+j]?)->k+l.length=n->HeadInv md ag n cP->(B<k->cP.getD B false=true) ->
  Region.lexHead md ag g l.length k cP=true->qn P ag C w0 w1 B Lq l k a ->
  xI P md ag C w0 w1 B n (fun Eo a'=>Region.seqB md ag g n Eo=true/\Eo.getD B false=true/\Lq a') l.length cP a
 | [],k,cP,a,_,hk,_,bU,hB,h=>by
  have:k=n:=by simpa using hk
  subst this;exact⟨by simpa[Region.lexHead] using hB,bU AO,h⟩
 | o::l,k,cP,a,hl,hk,qk,bU,hB,h=>by
  have h0:ag[k]?=some o:=by simpa using (hl 0 (by simp)).symm
  simp only[qe,Region.lexHead,fh] at hB;obtain⟨⟨hr,hf⟩,qN⟩:=hB;have ml:k<n:=by simp only[qe] at hk;omega
  have rP:k∈Region.ready md ag cP:=by simpa using hr
  obtain⟨v,hy,hK⟩:=h;refine SM h0 (Region.noSelect_spec rX) hs hc hn ml (fun Eo a' hL=>seqB_ready hL.1) l.length cP a qk (Region.free_spec h0 hf) rP hy
   (JX rX hs hc hn AO l (k+1) _ _ (fun j hj=>by have:=hl (j+1) (by simp;omega);simpa[Nat.add_assoc,Nat.add_comm 1 j] using this) (by simp only[qe] at hk;omega) (qk.set rP ml) (fun hb=>?_) qN hK)
  by_cases e:k=B
  ·subst e
   exact JW (by rw[qk.size];omega)
  ·exact getD_set_true (bU (by omega))
theorem SQ{i:Nat}{a:Act}{K:Act->Prop}{Q':Exit->Act->World->Prop}{K':Act->World->Prop}{w:World}(hC:C w)(hi:i≠B)(h:∀a,K a->K' a w)(hh:uA P ag C w0 w1 B i K a):wpOp P ag Q' i K' a w:=by
 obtain⟨o,v,ho,hy,hK⟩:=hh;unfold wpOp;simp only[ho];rcases hy with⟨e,-⟩|⟨-,⟨hw,hq⟩|⟨hw,rfl⟩⟩
 ·exact aN e hi
 ·simp only[hw,if_true]
  have h3:=hq w hC;unfold Oper.quietAt at h3;refine .inl ?_;unfold Oper.wp;generalize (execOp a.eval o).run P w=r at *
  cases r with
  | ok m w'=>
   cases m<;>simp only[Oper.quietUpon] at h3<;>simp only[Oper.upon]
   case value u=>
    obtain⟨e1,e2⟩:=h3;rw[e1,e2];exact h _ hK
   case skip=>
    obtain⟨e1,e2⟩:=h3;rw[e1,<-e2];exact h _ hK
   case enter f args=>
    obtain⟨e1,hc⟩:=h3;rw[e1];exact hc.mono fun e qM ⟨_,hf⟩=>hf.elim
  | halt x w'=>simp only[Oper.quietUpon] at h3
 ·simp only[hw,Bool.false_eq_true,if_false]
  exact h _ hK
theorem Ep{n g:Nat}{L:Array Bool->Act->Prop}{Q':Exit->Act->World->Prop}(JY:B<ag.size)(xJ:C w0)(xK:C w1)(hL:∀cP a,L cP a->cP.getD B false=true/\wpAny P md ag Q' g cP a w1) :
  ∀(f:Nat) (cP:Array Bool) (a:Act),cP.size=ag.size->xI P md ag C w0 w1 B n L f cP a->wpAny P md ag Q' (f+g) cP a (if cP.getD B false=true then w1 else w0)
 | 0,cP,a,_,h=>by
  obtain⟨h1,h2⟩:=hL _ _ h;rw[Nat.zero_add,ay h1];exact h2
 | f+1,cP,a,hz,h=>by
  rw[show f+1+g=(f+g)+1 by omega];refine⟨fun h0=>aN h0 h.1,fun i hi=>?_⟩;have jF:=(mem_ready.1 hi).1;by_cases e:i=B
  ·have e':=e.symm
   clear e;subst e';rw[ak (by rw[getD_both jF];simp)];obtain⟨o,v,ho,hy,hK⟩:=(h.2 B hi).2;rcases hy with⟨-,hw,hr⟩|⟨e,-⟩
   ·unfold wpOp
    simp only[ho,hw,if_true];refine .inl ?_;unfold Oper.wp;rw[hr];show wpAny P md ag Q' (f+g) (cP.setIfInBounds B true) (a.put o.dst v) w1;have:=Ep JY xJ xK hL f _ _ (by simp[hz]) hK;rw[ay (JW (by omega))] at this;exact this
   ·exact aN rfl e
  ·refine SQ (C:=C) ?_ e (fun a' h'=>?_) (h.2 i hi).2
   ·split
    ·exact xK
    ·exact xJ
   ·have:=Ep JY xJ xK hL f _ a' (by simp[hz]) h'
    rw[getD_set_ne false e] at this;exact this
theorem CC{id:Nat}{Q:Exit->Act->World->Prop}{a:Act}{w:World}{l:List Oper}(B n:Nat)(C:World->Prop)(w1:World)(hm:P.follows .mixedOrders=true)(hB:Region.lexTailB .any l.toArray n=true)(AO:B<n)(xJ:C { w with drawn:=w.drawn+1 })(xK:C w1)
  (h:qn P l.toArray C { w with drawn:=w.drawn+1 } w1 B (fun a'=>wpList P l.toArray Q (l.drop n) a' w1) (l.take n) 0 a):(Code.region id l.toArray true).wp P Q a w:=by
 simp only[Region.lexTailB,fh,decide_eq_true_eq] at hB;obtain⟨⟨⟨⟨rX,hn⟩,hs⟩,hc⟩,SR⟩:=hB;have oO:n<l.length:=by simpa using hn
 have xL:(l.take n).length=n:=by simp;omega
 have yD:(l.drop n).length=l.toArray.size-n:=by simp
 have SS:HeadInv .any l.toArray n (Array.replicate l.toArray.size false):=
  ⟨by simp,fun j oj _ hl=>(by rw[getD_replicate_false] at hl;cases hl),fun t _ ht=>getD_in (by simpa using ht) (getD_replicate_false _ _)⟩
 have H:=JX (md:=.any) (g:=l.toArray.size-n) rX hs hc hn AO (l.take n) 0 _ a (fun j hj=>by
  have rA:j<n:=by rw[xL] at hj;exact hj
  simp[rA]) (by simpa using xL) SS (fun hb=>by omega) (by rw[xL];exact SR) h
 refine wp_region_any hm ?_;have:=Ep (Q':=Q) (g:=l.toArray.size-n) (C:=C) (by omega) xJ xK (fun cP a' hL=>⟨hL.2.1,by
  have:=wpAny_of_seq (md:=.any) (Q':=Q) (l.drop n) n cP a' w1 (fun j=>by simp[List.getElem?_drop]) (by rw[yD];exact hL.1) hL.2.2
  rwa [yD] at this⟩) _ _ _ (by simp) H
 rw[xL,show n+(l.toArray.size-n)=l.toArray.size by omega,getD_replicate_false,ak (by simp)] at this;exact this
theorem yZ{Q:Act->Prop}{a:Act}{o:Oper}{rest:List Oper}{k:Nat}(hk:k≠B)
  (h:∀K:Act->Prop,(∀a,qn P ag C w0 w1 B Q rest (k+1) a->K a)->if Region.wanted o (yielded ag a.tmps) then (∃v,(∀w,C w->o.quietAt P a (fun _=>False) w v)/\K (a.put o.dst v)) else K (a.put o.dst undef)):qn P ag C w0 w1 B Q (o::rest) k a:=by
 have h':=h _ (fun _ h=>h)
 split at h'
 ·rename_i hw
  obtain⟨v,h1,h2⟩:=h';exact⟨v,.inr ⟨hk,.inl ⟨hw,h1⟩⟩,h2⟩
 ·rename_i hw
  exact⟨undef,.inr ⟨hk,.inr ⟨by simpa using hw,rfl⟩⟩,h'⟩
theorem CD{Q:Act->Prop}{a:Act}{o:Oper}{rest:List Oper}(v:Value)(hw:Region.wanted o (yielded ag a.tmps)=true)(hr:(execOp a.eval o).run P w0=.ok (.value v) w1)
  (h:qn P ag C w0 w1 B Q rest (B+1) (a.put o.dst v)):qn P ag C w0 w1 B Q (o::rest) B a:=
 ⟨v,.inl ⟨rfl,hw,hr⟩,h⟩
theorem CE{Q:Act->Prop}{a:Act}{k:Nat}(h:Q a):qn P ag C w0 w1 B Q [] k a:=h
end
end Go.Proofs.YtcnhfffgbamonabGreat
