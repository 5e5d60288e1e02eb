import Derived.Test.YtcnhfffgbamonaaGreatZ29
import Derived.StillTailTactics
import Derived.Lib.QuietBelow
set_option maxRecDepth 100000
set_option maxHeartbeats 6400000
namespace Go.Proofs.YtcnhfffgbamonaaGreat
open Go.Proofs.Tryz
open RowKit
section
variable {P:Program} {ag:Array Oper} {md:Region.Mode} {C:World->Prop} {w0 w1:World} {B:Nat}
def Y2(P:Program)(ag:Array Oper)(C:World->Prop)(w0 w1:World)(B i:Nat)(o:Oper)(v:Value)(a:Act):Prop:=
 (i=B/\Region.wanted o (yielded ag a.tmps)=true/\(execOp a.eval o).run P w0=.ok (.value v) w1) \/
 (i≠B/\((Region.wanted o (yielded ag a.tmps)=true/\∀w,C w->o.quietAt P a (fun _=>False) w v)\/(Region.wanted o (yielded ag a.tmps)=false/\v=undef)))
theorem Y2.Kq{i:Nat}{o:Oper}{v:Value}{a a':Act}(hy:Y2 P ag C w0 w1 B i o v a)(he:execOp a'.eval o=execOp a.eval o)
  (hw:Region.wanted o (yielded ag a'.tmps)=Region.wanted o (yielded ag a.tmps)):Y2 P ag C w0 w1 B i o v a':=by
 unfold Y2 Oper.quietAt at *;rw[he,hw];exact hy
def uM(P:Program)(ag:Array Oper)(C:World->Prop)(w0 w1:World)(B i:Nat)(K:Act->Prop)(a:Act):Prop:=
 ∃o v,ag[i]?=some o/\Y2 P ag C w0 w1 B i o v a/\K (a.put o.dst v)
theorem Tq{i:Nat}{a:Act}{K K':Act->Prop}(h:∀a,K a->K' a)(hh:uM P ag C w0 w1 B i K a):uM P ag C w0 w1 B i K' a:=by
 obtain⟨o,v,h1,h2,h3⟩:=hh;exact⟨o,v,h1,h2,h _ h3⟩
theorem Tr{i j:Nat}{oi oj:Oper}{v:Value}(hj:ag[j]?=some oj)(Kr:oi.apart ag oj=true)
  (Gi:∀cs b,oi.op≠.select cs b) (Tt:∀cs b,oj.op≠.select cs b) {K:Act->Prop} {a:Act}
  (hy:Y2 P ag C w0 w1 B i oi v a) (h:uM P ag C w0 w1 B j K (a.put oi.dst v)):
  uM P ag C w0 w1 B j (fun a'=>Y2 P ag C w0 w1 B i oi v a'/\K (a'.put oi.dst v)) a:=by
 obtain⟨h1,h2,h3⟩:=Oper.apart_spec Kr;obtain⟨o,u,ho,hu,hK⟩:=h;have:o=oj:=Option.some.inj (ho.symm.trans hj);subst this;refine⟨o,u,ho,hu.Kq (execOp_put o Tt a oi.dst v h1).symm (wanted_put o a oi.dst v h1).symm,hy.Kq (execOp_put oi Gi a o.dst u h3) (wanted_put oi a o.dst u h3),?_⟩;rw[<-Act.put_comm a v u h2];exact hK
def xZ(P:Program)(md:Region.Mode)(ag:Array Oper)(C:World->Prop)(w0 w1:World)(B n:Nat)(L:Array Bool->Act->Prop):Nat->Array Bool->Act->Prop
 |0,cS,a=>L cS a
 |f+1,cS,a=>
  Region.ready md ag cS≠[]/\∀i∈Region.ready md ag cS,i<n/\uM P ag C w0 w1 B i (xZ P md ag C w0 w1 B n L f (cS.setIfInBounds i true)) a
theorem Tu{n i:Nat}{oi:Oper}{v:Value}{L:Array Bool->Act->Prop}(hi:ag[i]?=some oi)(sy:∀(j:Nat) (o:Oper) cs b,ag[j]?=some o->o.op≠.select cs b)
  (hs:Region.sinkB md ag n=true) (hc:Region.chainB md ag n=true) (hn:n<ag.size) (cY:i<n)
  (Tv:∀cS a,L cS a->∀j∈Region.ready md ag cS,n<=j):
  ∀(f:Nat) (cS:Array Bool) (a:Act),HeadInv md ag n cS ->
   (∀j oj,ag[j]?=some oj->j≠i->cS.getD j true=false->(∀e∈oj.after,Region.binds md e=true->e.on≠i)->oi.apart ag oj=true) ->
   i∈Region.ready md ag cS->Y2 P ag C w0 w1 B i oi v a ->
   xZ P md ag C w0 w1 B n L f (cS.setIfInBounds i true) (a.put oi.dst v)->xZ P md ag C w0 w1 B n L (f+1) cS a:=by
 intro f
 induction f with
 |zero=>
  intro cS a qz _ hr hy H;have jG:=(mem_ready.1 hr).1;refine⟨fun h=>(by rw[h] at hr;cases hr),fun j hj=>?_⟩;have rz:j<n:=by
   rcases cE j n with h|h
   ·exact h
   ·exact aN hj (tail_waits hs hc hn qz _ i rfl cY jG j h)
  refine⟨rz,?_⟩;by_cases qA:j=i
  ·subst qA;exact⟨oi,v,hi,hy,H⟩
  ·have:=Tv _ _ H j (ready_mono hj qA)
   omega
 |succ f ih=>
  intro cS a qz Ks hr hy H;have jG:=(mem_ready.1 hr).1;refine⟨fun h=>(by rw[h] at hr;cases hr),fun j hj=>?_⟩;have rz:j<n:=by
   rcases cE j n with h|h
   ·exact h
   ·exact aN hj (tail_waits hs hc hn qz _ i rfl cY jG j h)
  refine⟨rz,?_⟩;by_cases qA:j=i
  ·subst qA;exact⟨oi,v,hi,hy,H⟩
  ·have h1:=(H.2 j (ready_mono hj qA)).2
   obtain⟨Kt,oj,EJ,Ag⟩:=mem_ready.1 hj;have Tw:∀e∈oj.after,Region.binds md e=true->e.on≠i:=fun e he hb OL=>by
    have h1:=Ag e he hb;rw[OL,getD_both jG] at h1
    cases h1
   have h2:=Tr EJ (Ks j oj EJ qA Kt Tw) (fun cs b=>sy i oi cs b hi) (fun cs b=>sy j oj cs b EJ) hy h1;have Tx:∀k ok,ag[k]?=some ok->k≠i->(cS.setIfInBounds j true).getD k true=false ->
     (∀e∈ok.after,Region.binds md e=true->e.on≠i)->oi.apart ag ok=true:=fun k ok hk vV jG xv=>by
    refine Ks k ok hk vV ?_ xv;by_cases Ku:j=k
    ·subst Ku;exact Kt
    ·rw[getD_set_ne true Ku] at jG;exact jG
   refine Tq (fun a' h3=>ih (cS.setIfInBounds j true) a' (qz.set hj rz) Tx (ready_mono hr (Ne.symm qA)) h3.1 ?_) h2;rw[Array.setIfInBounds_comm _ _ qA];exact h3.2
def qB(P:Program)(ag:Array Oper)(C:World->Prop)(w0 w1:World)(B:Nat)(Q:Act->Prop):List Oper->Nat->Act->Prop
 | [],_,a=>Q a
 |o::l,k,a=>∃v,Y2 P ag C w0 w1 B k o v a/\qB P ag C w0 w1 B Q l (k+1) (a.put o.dst v)
theorem Kv{cS:Array Bool}{i:Nat}(h:i<cS.size):(cS.setIfInBounds i true).getD i false=true:=by
 simp[h]
theorem Kw{n g:Nat}{Lq:Act->Prop}(sy:Region.noSelect ag=true)(hs:Region.sinkB md ag n=true)(hc:Region.chainB md ag n=true)(hn:n<ag.size)(Bb:B<n):
  ∀(l:List Oper) (k:Nat) (cS:Array Bool) (a:Act),(∀j,j<l.length->l[j]?=ag[k+j]?)->k+l.length=n->HeadInv md ag n cS->(B<k->cS.getD B false=true) ->
  Region.lexHead md ag g l.length k cS=true->qB P ag C w0 w1 B Lq l k a ->
  xZ P md ag C w0 w1 B n (fun EK a'=>Region.seqB md ag g n EK=true/\EK.getD B false=true/\Lq a') l.length cS a
 | [],k,cS,a,_,hk,_,bV,hB,h=>by
  have:k=n:=by simpa using hk
  subst this;exact⟨by simpa[Region.lexHead] using hB,bV Bb,h⟩
 |o::l,k,cS,a,hl,hk,qz,bV,hB,h=>by
  have h0:ag[k]?=some o:=by simpa using (hl 0 (by simp)).symm
  simp only[pN,Region.lexHead,eX] at hB;obtain⟨⟨hr,hf⟩,qZ⟩:=hB;have mx:k<n:=by simp only[pN] at hk;omega
  have rY:k∈Region.ready md ag cS:=by simpa using hr
  obtain⟨v,hy,hK⟩:=h;refine Tu h0 (Region.noSelect_spec sy) hs hc hn mx (fun EK a' hL=>seqB_ready hL.1) l.length cS a qz (Region.free_spec h0 hf) rY hy
   (Kw sy hs hc hn Bb l (k+1) _ _ (fun j hj=>by have:=hl (j+1) (by simp;omega);simpa[Nat.add_assoc,Nat.add_comm 1 j] using this) (by simp only[pN] at hk;omega) (qz.set rY mx) (fun hb=>?_) qZ hK)
  by_cases e:k=B
  ·subst e
   exact Kv (by rw[qz.size];omega)
  ·exact getD_set_true (bV (by omega))
theorem Ty{i:Nat}{a:Act}{K:Act->Prop}{Q':Exit->Act->World->Prop}{K':Act->World->Prop}{w:World}(hC:C w)(hi:i≠B)(h:∀a,K a->K' a w)(hh:uM P ag C w0 w1 B i K a):wpOp P ag Q' i K' a w:=by
 obtain⟨o,v,ho,hy,hK⟩:=hh;unfold wpOp;simp only[ho];rcases hy with⟨e,-⟩|⟨-,⟨hw,hq⟩|⟨hw,rfl⟩⟩
 ·exact aN e hi
 ·simp only[hw,if_true]
  have h3:=hq w hC;unfold Oper.quietAt at h3;refine .inl ?_;unfold Oper.wp;generalize (execOp a.eval o).run P w=r at *
  cases r with
  |ok m w'=>
   cases m<;>simp only[Oper.quietUpon] at h3<;>simp only[Oper.upon]
   case value u=>
    obtain⟨e1,e2⟩:=h3;rw[e1,e2];exact h _ hK
   case skip=>
    obtain⟨e1,e2⟩:=h3;rw[e1,<-e2];exact h _ hK
   case enter f args=>
    obtain⟨e1,hc⟩:=h3;rw[e1];exact hc.mono fun e qY ⟨_,hf⟩=>hf.elim
  |halt x w'=>simp only[Oper.quietUpon] at h3
 ·simp only[hw,Bool.false_eq_true,if_false]
  exact h _ hK
theorem EL{n g:Nat}{L:Array Bool->Act->Prop}{Q':Exit->Act->World->Prop}(Kx:B<ag.size)(x8:C w0)(x9:C w1)(hL:∀cS a,L cS a->cS.getD B false=true/\wpAny P md ag Q' g cS a w1):
  ∀(f:Nat) (cS:Array Bool) (a:Act),cS.size=ag.size->xZ P md ag C w0 w1 B n L f cS a->wpAny P md ag Q' (f+g) cS a (if cS.getD B false=true then w1 else w0)
 |0,cS,a,_,h=>by
  obtain⟨h1,h2⟩:=hL _ _ h;rw[Nat.zero_add,ay h1];exact h2
 |f+1,cS,a,hz,h=>by
  rw[show f+1+g=(f+g)+1 by omega];refine⟨fun h0=>aN h0 h.1,fun i hi=>?_⟩;have jG:=(mem_ready.1 hi).1;by_cases e:i=B
  ·have e':=e.symm
   clear e;subst e';rw[ak (by rw[getD_both jG];simp)];obtain⟨o,v,ho,hy,hK⟩:=(h.2 B hi).2;rcases hy with⟨-,hw,hr⟩|⟨e,-⟩
   ·unfold wpOp
    simp only[ho,hw,if_true];refine .inl ?_;unfold Oper.wp;rw[hr];show wpAny P md ag Q' (f+g) (cS.setIfInBounds B true) (a.put o.dst v) w1;have:=EL Kx x8 x9 hL f _ _ (by simp[hz]) hK;rw[ay (Kv (by omega))] at this;exact this
   ·exact aN rfl e
  ·refine Ty (C:=C) ?_ e (fun a' h'=>?_) (h.2 i hi).2
   ·split
    ·exact x9
    ·exact x8
   ·have:=EL Kx x8 x9 hL f _ a' (by simp[hz]) h'
    rw[getD_set_ne false e] at this;exact this
theorem CR{id:Nat}{Q:Exit->Act->World->Prop}{a:Act}{w:World}{l:List Oper}(B n:Nat)(C:World->Prop)(w1:World)(hm:P.follows .mixedOrders=true)(hB:Region.lexTailB .any l.toArray n=true)(Bb:B<n)(x8:C {w with drawn:=w.drawn+1})(x9:C w1)
  (h:qB P l.toArray C {w with drawn:=w.drawn+1} w1 B (fun a'=>wpList P l.toArray Q (l.drop n) a' w1) (l.take n) 0 a):(Code.region id l.toArray true).wp P Q a w:=by
 simp only[Region.lexTailB,eX,decide_eq_true_eq] at hB;obtain⟨⟨⟨⟨sy,hn⟩,hs⟩,hc⟩,Tz⟩:=hB;have oU:n<l.length:=by simpa using hn
 have ya:(l.take n).length=n:=by simp;omega
 have yW:(l.drop n).length=l.toArray.size-n:=by simp
 have TA:HeadInv .any l.toArray n (Array.replicate l.toArray.size false):=
  ⟨by simp,fun j oj _ hl=>(by rw[getD_replicate_false] at hl;cases hl),fun t _ ht=>getD_in (by simpa using ht) (getD_replicate_false _ _)⟩
 have H:=Kw (md:=.any) (g:=l.toArray.size-n) sy hs hc hn Bb (l.take n) 0 _ a (fun j hj=>by
  have rK:j<n:=by rw[ya] at hj;exact hj
  simp[rK]) (by simpa using ya) TA (fun hb=>by omega) (by rw[ya];exact Tz) h
 refine wp_region_any hm ?_;have:=EL (Q':=Q) (g:=l.toArray.size-n) (C:=C) (by omega) x8 x9 (fun cS a' hL=>⟨hL.2.1,by
  have:=wpAny_of_seq (md:=.any) (Q':=Q) (l.drop n) n cS a' w1 (fun j=>by simp[List.getElem?_drop]) (by rw[yW];exact hL.1) hL.2.2
  rwa [yW] at this⟩) _ _ _ (by simp) H
 rw[ya,show n+(l.toArray.size-n)=l.toArray.size by omega,getD_replicate_false,ak (by simp)] at this;exact this
theorem zF{Q:Act->Prop}{a:Act}{o:Oper}{rest:List Oper}{k:Nat}(hk:k≠B)
  (h:∀K:Act->Prop,(∀a,qB P ag C w0 w1 B Q rest (k+1) a->K a)->if Region.wanted o (yielded ag a.tmps) then (∃v,(∀w,C w->o.quietAt P a (fun _=>False) w v)/\K (a.put o.dst v)) else K (a.put o.dst undef)):qB P ag C w0 w1 B Q (o::rest) k a:=by
 have h':=h _ (fun _ h=>h)
 split at h'
 ·rename_i hw
  obtain⟨v,h1,h2⟩:=h';exact⟨v,.inr ⟨hk,.inl ⟨hw,h1⟩⟩,h2⟩
 ·rename_i hw
  exact⟨undef,.inr ⟨hk,.inr ⟨by simpa using hw,rfl⟩⟩,h'⟩
theorem CS{Q:Act->Prop}{a:Act}{o:Oper}{rest:List Oper}(v:Value)(hw:Region.wanted o (yielded ag a.tmps)=true)(hr:(execOp a.eval o).run P w0=.ok (.value v) w1)
  (h:qB P ag C w0 w1 B Q rest (B+1) (a.put o.dst v)):qB P ag C w0 w1 B Q (o::rest) B a:=
 ⟨v,.inl ⟨rfl,hw,hr⟩,h⟩
theorem CT{Q:Act->Prop}{a:Act}{k:Nat}(h:Q a):qB P ag C w0 w1 B Q [] k a:=h
end
theorem Tryz.arx:(prog.info? 66).map (fun i=>(i.zero,i.size,i.bytes))=some (some (.agg #[.int .i64 0,.int .i64 0,.int .i64 0,.int .i64 0,.int .i64 0,.slice none 0 0]),6,64):=by kernel_rfl
theorem Tryz.ary:(prog.info? 110).map (fun i=>(i.zero,i.size,i.bytes))=some (some (.agg #[.int .i64 0,.slice none 0 0,.int .i64 0,.slice none 0 0]),4,64):=by kernel_rfl
def pf(w:World)(base:Nat)(v:Value)(ts:List M.Tn):Prop:=
 ∃ps:List (M.Tn×Value),ps.map (·.1)=ts/\w.ownsRow base 66 6 v ts.length (ps.flatMap fun p=>(bg p.1 p.2).toList)/\∀p∈ps,aZ w base p.2 p.1.data
theorem pf.nil(w:World)(base:Nat):pf w base (.slice none 0 0) []:=⟨[],rfl,ki _ _ _ _,by simp⟩
theorem pf.kept{w w':World}{base b:Nat}{v:Value}{ts:List M.Tn}(h:pf w base v ts)(hg:w.grownBy w' (some b))(hb:b<base):pf w' base v ts:=by
 obtain⟨ps,h1,h2,h3⟩:=h;exact⟨ps,h1,px h2 hg hb,fun p hp=>(h3 p hp).kept hg hb⟩
theorem pf.Z{w w':World}{base:Nat}{v:Value}{ts:List M.Tn}(h:pf w base v ts)(hg:w.grownBy w' none):pf w' base v ts:=by
 obtain⟨ps,h1,h2,h3⟩:=h;exact⟨ps,h1,eY h2 hg,fun p hp=>(h3 p hp).Z hg⟩
theorem pf.py{w w2:World}{B:Nat}{v v':Value}{ps:List (M.Tn×Value)}{ts:List M.Tn}{t:M.Tn}{dv:Value}(h1:ps.map (·.1)=ts)(h2:w.ownsRow B 66 6 v ts.length (ps.flatMap fun p=>(bg p.1 p.2).toList))(h3:∀p∈ps,aZ w B p.2 p.1.data)
  (hd:aZ w B dv t.data) (aM:w.grownBy w2 v.ownBlock)
  (cB:w2.ownsRow B 66 6 v' (ts.length+1) ((ps.flatMap fun p=>(bg p.1 p.2).toList)++(bg t dv).toList)):pf w2 B v' (ts++[t]):=by
 refine⟨ps++[(t,dv)],by simp[h1],by simpa using cB,?_⟩;intro p hp;rcases List.mem_append.1 hp with hp|hp
 ·exact oc (h3 p hp) h2 (by decide) aM
 ·simp at hp
  subst hp;exact oc hd h2 (by decide) aM
theorem pf.get{w:World}{base:Nat}{a:Option Addr}{n c:Nat}{ts:List M.Tn}(h:pf w base (.slice a n c) ts)(i:Nat)(t:M.Tn)(hi:ts[i]?=some t) :
  ∃g ao cp,a=some ⟨g,0,none⟩/\n=ts.length/\base<=g/\aZ w base (.slice ao t.data.length cp) t.data /\
   w.cell? ⟨g,i*6,none⟩=some (.int .i64 t.af)/\w.cell? ⟨g,i*6+1,none⟩=some (.int .i64 t.h)/\w.cell? ⟨g,i*6+2,none⟩=some (.int .i64 t.w) /\
   w.cell? ⟨g,i*6+3,none⟩=some (.int .i64 t.c)/\w.cell? ⟨g,i*6+4,none⟩=some (.int .i64 t.zero)/\w.cell? ⟨g,i*6+5,none⟩=some (.slice ao t.data.length cp):=by
 obtain⟨ps,h1,h2,h3⟩:=h;have aJ:i<ts.length:=by
  rcases cE i ts.length with h' |h'
  ·exact h'
  ·simp[db h'] at hi
 obtain⟨g,ha,hb,hn,hc⟩:=nE h2 (by omega);subst h1;rw[dV] at hi;obtain⟨p,hp,rfl⟩:=Option.map_eq_some_iff.1 hi;obtain⟨ao,cp,qj⟩:=OV (h3 p (bU hp));have hI:=h3 p (bU hp);rw[qj] at hI;have cF:∀j,j<6->w.cell? ⟨g,i*6+j,none⟩=(bg p.1 p.2).toList[j]?:=by
  intro j hj;rw[hc _ (by simp at aJ ⊢;omega)];exact lP (fun p:M.Tn×Value=>(bg p.1 p.2).toList) 6 (fun a=>rfl) ps i j p hp hj
 refine⟨g,ao,cp,ha,hn,hb,hI,cF 0 (by omega),cF 1 (by omega),cF 2 (by omega),cF 3 (by omega),cF 4 (by omega),?_⟩;rw[cF 5 (by omega),qj]
 rfl
def pk(w:World)(base:Nat)(v:Value)(os:List R.Op):Prop:=
 ∃ps:List (R.Op×Value×Value),ps.map (·.1)=os/\w.ownsRow base 110 4 v os.length (ps.flatMap fun p=>(o4 p.1.af p.2.1 p.1.out p.2.2).toList)/\∀p∈ps,aZ w base p.2.1 p.1.ins/\aZ w base p.2.2 p.1.cO
theorem pk.nil(w:World)(base:Nat):pk w base (.slice none 0 0) []:=⟨[],rfl,ki _ _ _ _,by simp⟩
theorem pk.kept{w w':World}{base b:Nat}{v:Value}{os:List R.Op}(h:pk w base v os)(hg:w.grownBy w' (some b))(hb:b<base):pk w' base v os:=by
 obtain⟨ps,h1,h2,h3⟩:=h;exact⟨ps,h1,px h2 hg hb,fun p hp=>⟨(h3 p hp).1.kept hg hb,(h3 p hp).2.kept hg hb⟩⟩
theorem pk.Z{w w':World}{base:Nat}{v:Value}{os:List R.Op}(h:pk w base v os)(hg:w.grownBy w' none):pk w' base v os:=by
 obtain⟨ps,h1,h2,h3⟩:=h;exact⟨ps,h1,eY h2 hg,fun p hp=>⟨(h3 p hp).1.Z hg,(h3 p hp).2.Z hg⟩⟩
theorem pk.py{w w2:World}{B:Nat}{v v':Value}{ps:List (R.Op×Value×Value)}{os:List R.Op}{o:R.Op}{iv nv:Value}(h1:ps.map (·.1)=os)(h2:w.ownsRow B 110 4 v os.length (ps.flatMap fun p=>(o4 p.1.af p.2.1 p.1.out p.2.2).toList))(h3:∀p∈ps,aZ w B p.2.1 p.1.ins/\aZ w B p.2.2 p.1.cO)
  (hi:aZ w B iv o.ins) (hn:aZ w B nv o.cO) (aM:w.grownBy w2 v.ownBlock)
  (cB:w2.ownsRow B 110 4 v' (os.length+1) ((ps.flatMap fun p=>(o4 p.1.af p.2.1 p.1.out p.2.2).toList)++(o4 o.af iv o.out nv).toList)):pk w2 B v' (os++[o]):=by
 refine⟨ps++[(o,iv,nv)],by simp[h1],by simpa using cB,?_⟩;intro p hp;rcases List.mem_append.1 hp with hp|hp
 ·exact⟨oc (h3 p hp).1 h2 (by decide) aM,oc (h3 p hp).2 h2 (by decide) aM⟩
 ·simp at hp
  subst hp;exact⟨oc hi h2 (by decide) aM,oc hn h2 (by decide) aM⟩
theorem pk.get{w:World}{base:Nat}{a:Option Addr}{n c:Nat}{os:List R.Op}(h:pk w base (.slice a n c) os)(i:Nat)(o:R.Op)(hi:os[i]?=some o) :
  ∃g ai ci an cn,a=some ⟨g,0,none⟩/\n=os.length/\base<=g/\aZ w base (.slice ai o.ins.length ci) o.ins/\aZ w base (.slice an o.cO.length cn) o.cO /\
   w.cell? ⟨g,i*4,none⟩=some (.int .i64 o.af)/\w.cell? ⟨g,i*4+1,none⟩=some (.slice ai o.ins.length ci)/\w.cell? ⟨g,i*4+2,none⟩=some (.int .i64 o.out)/\w.cell? ⟨g,i*4+3,none⟩=some (.slice an o.cO.length cn):=by
 obtain⟨ps,h1,h2,h3⟩:=h;have aJ:i<os.length:=by
  rcases cE i os.length with h' |h'
  ·exact h'
  ·simp[db h'] at hi
 obtain⟨g,ha,hb,hn,hc⟩:=nE h2 (by omega);subst h1;rw[dV] at hi;obtain⟨p,hp,rfl⟩:=Option.map_eq_some_iff.1 hi;obtain⟨hI,hN⟩:=h3 p (bU hp);obtain⟨ai,ci,Gi⟩:=OV hI;obtain⟨an,cn,hsn⟩:=OV hN;rw[Gi] at hI;rw[hsn] at hN;have cF:∀j,j<4->w.cell? ⟨g,i*4+j,none⟩=(o4 p.1.af p.2.1 p.1.out p.2.2).toList[j]?:=by
  intro j hj;rw[hc _ (by simp at aJ ⊢;omega)];exact lP (fun p:R.Op×Value×Value=>(o4 p.1.af p.2.1 p.1.out p.2.2).toList) 4 (fun a=>rfl) ps i j p hp hj
 refine⟨g,ai,ci,an,cn,ha,hn,hb,hI,hN,cF 0 (by omega),?_,cF 2 (by omega),?_⟩
 ·rw[cF 1 (by omega),Gi];rfl
 ·rw[cF 3 (by omega),hsn];rfl
def lF(w:World)(b:Nat)(g:R.bX):Prop:=
 ∃a1 c1 a2 c2 a3 c3,aj w b 70 #[.slice a1 g.ts.length c1,.slice a2 g.ag.length c2,.slice a3 g.aK.length c3] /\
  pf w (b+1) (.slice a1 g.ts.length c1) g.ts/\pk w (b+1) (.slice a2 g.ag.length c2) g.ag/\aZ w (b+1) (.slice a3 g.aK.length c3) g.aK
theorem lF.Z{w w':World}{b:Nat}{g:R.bX}(h:lF w b g)(hg:w.grownBy w' none):lF w' b g:=by
 obtain⟨a1,c1,a2,c2,a3,c3,h1,h2,h3,h4⟩:=h;exact⟨a1,c1,a2,c2,a3,c3,h1.kept hg (by simp),h2.Z hg,h3.Z hg,h4.Z hg⟩
namespace R
def Bl(ts:List M.Tn)(os:List Op):List UInt8->fW bX:=nx (tk 1 false) fun n=>nx (many (tk 1 false) n.toNat) fun us=>ok ⟨ts,os,us⟩
def Bm(ts:List M.Tn):List UInt8->fW bX:=nx (tk 1 false) fun n=>nx (many op n.toNat) fun os=>Bl ts os
def EW:List UInt8->fW bX:=nx (tk 1 false) fun n=>nx (many fH n.toNat) fun ts=>Bm ts
def Ck(x:fW bX):Option bX:=match x with|some (g,[])=>some g|_=>none
theorem adY{l:List UInt8}(h:l.length<4\/l.take 4≠M.DD):fh l=none:=by unfold fh;rw[ay h]
theorem arz{l:List UInt8}(h:¬(l.length<4\/l.take 4≠M.DD)):fh l=Ck (EW (l.drop 4)):=by unfold fh;rw[ak h];rfl
theorem adZ{α:Type}{f:List UInt8->fW α}{l:List UInt8}{k:Nat}(h:many f k l=none):∀j,many f (k+j) l=none
 |0=>h
 |j+1=>by rw[<-Nat.add_assoc];show nx (many f (k+j)) _ l=none;rw[nx,adZ h j]
theorem arA{α:Type}{f:List UInt8->fW α}{l r r':List UInt8}{k:Nat}{xs:List α}{x:α}(h:many f k l=some (xs,r))(hx:f r=some (x,r')):many f (k+1) l=some (xs++[x],r'):=by
 show nx (many f k) (fun xs=>nx f fun x=>ok (xs++[x])) l=_;rw[nx,h];show nx f (fun x=>ok (xs++[x])) r=_;rw[nx,hx]
 rfl
theorem arB{α:Type}{f:List UInt8->fW α}{l r:List UInt8}{k n:Nat}{xs:List α}(h:many f k l=some (xs,r))(hx:f r=none)(hk:k<n):many f n l=none:=by
 obtain⟨d,rfl⟩:=Nat.exists_eq_add_of_le (show k+1<=n by omega);refine adZ ?_ d;show nx (many f k) (fun xs=>nx f fun x=>ok (xs++[x])) l=_;rw[nx,h];show nx f (fun x=>ok (xs++[x])) r=_;rw[nx,hx]
end R
def pZ{α:Type}(f:List UInt8->R.fW α)(n:Nat)(l1:List UInt8)(jz:Bool)(j:Nat)(xs:List α)(r:List UInt8)(b:Bool):Prop:=
 (b=true->jz=true/\R.many f j l1=some (xs,r))/\(b=false->jz=false\/R.many f n l1=none)
theorem pZ.start{α:Type}(f:List UInt8->R.fW α)(n:Nat)(l1:List UInt8)(jz:Bool):pZ f n l1 jz 0 [] l1 jz:=⟨fun h=>⟨h,rfl⟩,fun h=>.inl h⟩
theorem pZ.zK{α:Type}{f:List UInt8->R.fW α}{n j:Nat}{l1 r:List UInt8}{jz:Bool}{xs:List α}(h:pZ f n l1 jz j xs r true):jz=true/\R.many f j l1=some (xs,r):=h.1 rfl
theorem pZ.no{α:Type}{f:List UInt8->R.fW α}{n j:Nat}{l1 r:List UInt8}{jz:Bool}{xs:List α}(h:pZ f n l1 jz j xs r false):jz=false\/R.many f n l1=none:=h.2 rfl
theorem pZ.go{α:Type}{f:List UInt8->R.fW α}{n j:Nat}{l1 r r':List UInt8}{jz:Bool}{xs:List α}{x:α}(h:pZ f n l1 jz j xs r true)(hx:f r=some (x,r')):pZ f n l1 jz (j+1) (xs++[x]) r' true:=
 ⟨fun _=>⟨h.zK.1,R.arA h.zK.2 hx⟩,fun h=>aN h (by decide)⟩
theorem pZ.Dj{α:Type}{f:List UInt8->R.fW α}{n j:Nat}{l1 r r':List UInt8}{jz:Bool}{xs ys:List α}(h:pZ f n l1 jz j xs r true)(hx:f r=none)(hj:j<n):pZ f n l1 jz (j+1) ys r' false:=
 ⟨fun h=>aN h (by decide),fun _=>.inr (R.arB h.zK.2 hx hj)⟩
namespace R
theorem Pa{l:List UInt8}(h:tk 1 false l=none):EW l=none:=by unfold EW;rw[nx,h]
theorem ad0{l r:List UInt8}{n:Int}(h:tk 1 false l=some (n,r))(h':many fH n.toNat r=none):EW l=none:=by unfold EW;rw[nx,h];show nx _ _ r=_;rw[nx,h']
theorem arC{l r r':List UInt8}{n:Int}{ts:List M.Tn}(h:tk 1 false l=some (n,r))(h':many fH n.toNat r=some (ts,r')):EW l=Bm ts r':=by unfold EW;rw[nx,h];show nx _ _ r=_;rw[nx,h']
theorem Pb{l:List UInt8}{ts:List M.Tn}(h:tk 1 false l=none):Bm ts l=none:=by unfold Bm;rw[nx,h]
theorem ad1{l r:List UInt8}{n:Int}{ts:List M.Tn}(h:tk 1 false l=some (n,r))(h':many op n.toNat r=none):Bm ts l=none:=by unfold Bm;rw[nx,h];show nx _ _ r=_;rw[nx,h']
theorem arD{l r r':List UInt8}{n:Int}{ts:List M.Tn}{os:List Op}(h:tk 1 false l=some (n,r))(h':many op n.toNat r=some (os,r')):Bm ts l=Bl ts os r':=by unfold Bm;rw[nx,h];show nx _ _ r=_;rw[nx,h']
theorem arE{l:List UInt8}{ts:List M.Tn}{os:List Op}(h:tk 1 false l=none):Bl ts os l=none:=by unfold Bl;rw[nx,h]
theorem arF{l r:List UInt8}{n:Int}{ts:List M.Tn}{os:List Op}(h:tk 1 false l=some (n,r))(h':list r 1 false n.toNat=none):Bl ts os l=none:=by unfold Bl;rw[nx,h];show nx _ _ r=_;rw[nx,<-ES,h']
theorem arG{l r r':List UInt8}{n:Int}{ts:List M.Tn}{os:List Op}{us:List Int}(h:tk 1 false l=some (n,r))(h':list r 1 false n.toNat=some (us,r')):Bl ts os l=some (⟨ts,os,us⟩,r'):=by unfold Bl;rw[nx,h];show nx _ _ r=_;rw[nx,<-ES,h'];rfl
end R
def ad3(wr:World)(B:Nat)(L:Nat)(b:Bool)(ts:List M.Tn)(r:List UInt8):Prop:=
 b=true->r.length<=L/\∃av cv,aj wr B 70 #[.slice av ts.length cv,.slice none 0 0,.slice none 0 0]/\pf wr (B+1) (.slice av ts.length cv) ts
def ad4(wr:World)(B:Nat)(L:Nat)(b:Bool)(ts:List M.Tn)(a1:Option Addr)(c1:Nat)(os:List R.Op)(r:List UInt8):Prop:=
 b=true->r.length<=L/\∃av cv,aj wr B 70 #[.slice a1 ts.length c1,.slice av os.length cv,.slice none 0 0]/\pf wr (B+1) (.slice a1 ts.length c1) ts/\pk wr (B+1) (.slice av os.length cv) os
theorem ad5(l:List UInt8):((S9 l).extract 0 4).toList=l.take 4:=by
 rw[Lib.toList_data,Lib.extract_data];simp[S9]
theorem arH(l:List UInt8):(S9 l).extract 4 l.length=S9 (l.drop 4):=by
 rw[ads,BF (by simp)]
theorem arI(l:List UInt8)(w:World)(hl:l.length<=4096) :
  Calls prog 33 #[.string (S9 l)] w fun e w'=>w.grownBy w' none /\
   ((Hid (R.fh l=none)/\e=.returned (.tuple #[.pointer (some ⟨w.heap.size,0,none⟩),.bool false])) \/
    ∃g,Hid (R.fh l=some g)/\e=.returned (.tuple #[.pointer (some ⟨w.heap.size,0,none⟩),.bool true])/\lF w' w.heap.size g):=by
 have KM:=Gn l;have B0:=ae (aj.bA w 70 #[.slice none 0 0,.slice none 0 0,.slice none 0 0]);have G0:=ae (aQ w (.cells #[.slice none 0 0,.slice none 0 0,.slice none 0 0] 70) none);by_cases h4:l.length<4
 ·have HN:=ae (R.adY (.inl h4))
  go_enter func33,ntmps33;go_wp2
  go_ret2
  exact⟨G0.out,.inl (by first|exact⟨HN.out,rfl⟩|rfl)⟩
 ·have qS:4<=l.length:=by omega
  cases hh:(!((S9 l).extract 0 4).toList==[116,102,108,49]) with
  |true=>
   have HN:=ae (R.adY (l:=l) (.inr (by rw[<-ad5];intro e;rw[e] at hh;exact aN hh (by decide))));go_enter func33,ntmps33;go_wp2
   go_ret2
   exact⟨G0.out,.inl (by first|exact⟨HN.out,rfl⟩|rfl)⟩
  |false=>
   have HR:=ae (R.arz (l:=l) (by
    intro h;rcases h with h|h
    ·omega
    ·rw[<-ad5] at h
     simp at hh;exact h hh))
   have Hd:=ae (arH l);have yW:(l.drop 4).length<=l.length:=by simp
   go_enter func33,ntmps33;go_wp2_with fail;rw[Hd.out];generalize l.drop 4=l0 at *;refine(yc l0 1 false _ (by decide) (by decide) (by omega)).mono ?_;rintro e w1⟨rfl,g1⟩;have yj:=R.ET l0 false;have fP:=(wK l0 1 false).1;obtain⟨⟨n1,r1,jz⟩,uU⟩:∃p,Hid (R.take l0 1 false=p):=⟨_,rfl⟩;rw[uU.out] at yj fP ⊢;have bn:0<=n1/\n1<=255:=yj;have zo:Hid (r1.length<=l.length):=by have:r1.length<=l0.length:=fP;unfold Hid;omega
   obtain⟨n,rfl⟩:=fT bn.1;have ad6:(n:Int)<=255:=bn.2;have B1:=ae (aj.kept B0.out g1 (by simp));have G1:=ae (aC G0.out g1);clear yj fP bn g1 B0 G0 hh Hd;obtain⟨i0,hi,cP,cQ,cZ⟩:=info_parts Tryz.arx;go_wp2;go_loopw[0,6,7] (fun s KN i wr=>∃(j:Nat) (ts:List M.Tn) (r:List UInt8) (b:Bool),Hid (j<=n)/\i=.int .i64 j/\s=.string (S9 r)/\KN=.bool b/\Hid (ts.length<=j)/\Hid (pZ R.fH n r1 jz j ts r b)/\Hid (ad3 wr w.heap.size l.length b ts r)/\w.grownBy wr none) (fun _ _ i _=>n-(intOf i).toNat)
   case atStart=>exact⟨0,[],r1,jz,bK _,rfl,rfl,rfl,bj _,pZ.start _ _ _ _,(fun _=>⟨zo.out,none,0,B1.out,pf.nil _ _⟩),G1.out⟩
   case round=>
    obtain⟨j,ts,r,b,Hj,rfl,rfl,rfl,tP,eJ,Bn,bO⟩:=hrel;by_cases aJ:j<n
    ·have dW:=ae aJ
     cases b with
     |true=>
      obtain⟨gJ,av,cv,hB,hT⟩:=Bn.out rfl;have HB:=ae hB;have HT:=ae hT;have gQ:w.heap.size<wr.heap.size:=hB.lt;clear hB hT Bn;go_wp2_with fail;refine(aq3 r wr (by omega)).mono ?_;rintro e w8⟨g8,zL⟩;have jG:∃(k h v c z:Int) (d:List Int) (ao:Option Addr) (m cp:Nat) (r':List UInt8) (bb:Bool),e=.returned (.tuple #[.agg (t6 k h v c z (.slice ao m cp)),.string (S9 r'),.bool bb])/\Hid (pZ R.fH n r1 jz (j+1) (ts++[⟨k,h,v,c,z,d⟩]) r' bb)/\Hid (bb=true->r'.length<=l.length/\m=d.length/\aZ w8 wr.heap.size (.slice ao d.length cp) d):=by
       rcases zL with⟨k,h,v,c,z,ao,m,cp,r',oU,rfl⟩|⟨t,ao,cp,r',ht,rY,-,rfl,hI⟩
       ·exact⟨k,h,v,c,z,[],ao,m,cp,r',false,rfl,eJ.out.Dj oU.out dW.out,fun h=>aN h (by decide)⟩
       ·exact⟨t.af,t.h,t.w,t.c,t.zero,t.data,ao,t.data.length,cp,r',true,rfl,eJ.out.go ht.out,fun _=>⟨by omega,rfl,hI⟩⟩
      obtain⟨k,h,v,c,z,d,ao,m,cp,r',bb,rfl,lV,tE⟩:=jG;clear zL;have jy:=ae (HB.out.kept g8 (by simp));have AO:=ae (HT.out.Z g8);have fD:=ae (aC bO g8);have Uf:wr.heap.size<=w8.heap.size:=g8.size;clear g8 bO HB HT;obtain⟨W,HW⟩:∃W,Hid ((w8.alloc (.cells #[.int .i64 k,.int .i64 h,.int .i64 v,.int .i64 c,.int .i64 z,.slice ao m cp] 66))=W):=⟨_,rfl⟩;have gW:w8.grownBy W none:=by rw[<-HW.out];exact aQ _ _ _
      have Gl:W.heap.size=w8.heap.size+1:=by rw[<-HW.out];exact World.size_alloc _ _
      have BT:aj W w8.heap.size 66 #[.int .i64 k,.int .i64 h,.int .i64 v,.int .i64 c,.int .i64 z,.slice ao m cp]:=by rw[<-HW.out];exact aj.bA _ _ _
      obtain⟨t0,t1,t2,t3,t4,t5⟩:=mI BT;have Bo:=ae (jy.out.kept gW (by simp));obtain⟨q0,q1,q2⟩:W.cell? ⟨w.heap.size,0,none⟩=some (.slice av ts.length cv)/\True/\True:=⟨Bo.out.cell 0,trivial,trivial⟩;have KP:=ae (AO.out.Z gW);have uE:=ae (aC fD.out gW);have y0:=cell_regrown q0;have y1:=cell_regrown t0;have y2:=cell_regrown t1;have y3:=cell_regrown t2;have y4:=cell_regrown t3;have y5:=cell_regrown t4;have y6:=cell_regrown t5;have GC:=ae gW;have HWs:=ae Gl;clear gW BT t0 t1 t2 t3 t4 t5 q0 q1 q2 jy AO fD Gl;go_wp2_with fail;rw[HW.out];refine CR 5 6 (fun w'=>∃p:Regrown,w'=Go.Sort.grow (redrawn W p.d) p.os) (W.drew.alloc (.cells #[.int .i64 k,.int .i64 h,.int .i64 v,.int .i64 c,.int .i64 z,.slice ao m cp] 66)) (by kernel_rfl) (by kernel_rfl) (by decide) ⟨⟨W.drawn+1,#[]⟩,by rw[Go.Sort.grow_empty];rfl⟩ ⟨⟨W.drawn+1,#[.cells #[.int .i64 k,.int .i64 h,.int .i64 v,.int .i64 c,.int .i64 z,.slice ao m cp] 66]⟩,rfl⟩ ?_;simp only[List.take_succ_cons,List.take_zero,List.drop_succ_cons,List.drop_zero]
      repeat (refine zF (by decide) (fun K hK=>?_);go_simp;refine hK _ ?_;clear hK K)
      refine CS (.slice (some ⟨W.heap.size,0,none⟩) 1 1) ?hw ?hr ?_
      case hw=>rfl
      case hr=>go_simp
      refine CT ?_;clear y0 y1 y2 y3 y4 y5 y6;obtain⟨ps,p1,p2,p3⟩:=KP.out;have P2:=ae (eY p2 (gE W none));have ju:w.heap.size+1<=W.heap.size:=by have:=Bo.out.lt;omega
      have Ug:ts.length<=255:=by have:=tP.out;have:=dW.out;omega
      have mC:=ae p2;clear p2;go_wp2_with(at_builtin;refine nD _ rfl _ _ 67 rfl (w.heap.size+1) 66 i0 (.agg #[.int .i64 0,.int .i64 0,.int .i64 0,.int .i64 0,.int .i64 0,.slice none 0 0]) 6 64 underlying67 hi cP cQ cZ rfl (by decide) _ _ _ rfl (lB P2.out _) ⟨W.heap.size,0,none⟩ 1 1 [.int .i64 k,.int .i64 h,.int .i64 v,.int .i64 c,.int .i64 z,.slice ao m cp] rfl rfl ?c1 ?c2 ?c3 ?c4 ?c5 ?_)
      case c1=>exact kb W.drew 66 #[.int .i64 k,.int .i64 h,.int .i64 v,.int .i64 c,.int .i64 z,.slice ao m cp]
      case c2=>intro u hu;simp at hu;rcases hu with rfl|rfl|rfl|rfl|rfl|rfl<;>rfl
      case c3=>unfold maxLen;omega
      case c4=>omega
      case c5=>simp;omega
      intro v' w9 dC cR _;have bq:W.grownBy w9 (Value.slice av ts.length cv).ownBlock:=aC (aC (aQ W _ _) (gE _ _)) cR;have dR:=mJ mC.out;have fA:=Bo.out.kept bq (by intro e;have:=dR _ e.symm;omega);have e4:w9.cell? ⟨w.heap.size,0,none⟩=some (.slice av ts.length cv):=fA.cell 0;have f4:=fA.free 0;have hl9:=fA.lt;have jh:=ae (dF (l8 uE.out bq (fun g hg=>by have:=dR g hg;omega)) (bD w9 w.heap.size 0 v') (bj _));obtain⟨eQ,eR,hv⟩:=gP dC;have KQ:Hid (ad3 (w9.setCell ⟨w.heap.size,0,none⟩ v') w.heap.size l.length bb (ts++[⟨k,h,v,c,z,d⟩]) r'):=fun hb=>by
       obtain⟨rY,hm,hI⟩:=tE.out hb;subst hm;have hT9:pf w9 (w.heap.size+1) v' (ts++[⟨k,h,v,c,z,d⟩]):=pf.py p1 mC.out p3 ((hI.Z GC.out).mono (by omega)) bq dC;rw[hv] at hT9 ⊢;refine⟨rY,eQ,eR,?_,?_⟩
       ·have e:=fA.set 0 (.slice eQ (ts.length+1) eR)
        simpa using e
       ·have e:=hT9.kept (bD w9 w.heap.size 0 (.slice eQ (ts.length+1) eR)) (Nat.lt_succ_self _)
        simpa using e
      have Uh:Hid ((ts++[(⟨k,h,v,c,z,d⟩:M.Tn)]).length<=j+1):=by have:=tP.out;unfold Hid;simp;omega
      have BN:=dW.out;rw[hv] at jh KQ ⊢;clear hv dC cR bq dR mC P2 p1 p3 fA Bo KP uE tE GC HWs ju Ug gJ gQ Uf;go_wp2;go_roundw
      case rel=>exact⟨j+1,_,r',bb,(by have:=dW.out;unfold Hid;omega),by go_num,rfl,rfl,Uh.out,lV.out,KQ.out,jh.out⟩
      case measure=>have:=dW.out;simp[intOf];omega
     |false=>
      have HN:=ae (show R.fh l=none by
       rw[HR.out];rcases eJ.out.no with h|h
       ·subst h;rw[R.Pa (R.qC uU.out)];rfl
       ·cases h5:jz with
        |false=>rw[h5] at uU;rw[R.Pa (R.qC uU.out)];rfl
        |true=>rw[h5] at uU;rw[R.ad0 (R.sA uU.out) h];rfl)
      have cV:=ae bO;clear bO;go_wp2
      go_ret2
      exact⟨cV.out,.inl (by first|exact⟨HN.out,rfl⟩|rfl)⟩
    ·have rz:j=n:=by have:=Hj.out;omega
     subst rz
     cases b with
     |false=>
      have HN:=ae (show R.fh l=none by
       rw[HR.out];rcases eJ.out.no with h|h
       ·subst h;rw[R.Pa (R.qC uU.out)];rfl
       ·cases h5:jz with
        |false=>rw[h5] at uU;rw[R.Pa (R.qC uU.out)];rfl
        |true=>rw[h5] at uU;rw[R.ad0 (R.sA uU.out) h];rfl)
      have cV:=ae bO;clear bO;go_wp2
      go_ret2
      exact⟨cV.out,.inl (by first|exact⟨HN.out,rfl⟩|rfl)⟩
     |true=>
      obtain⟨gJ,a1,c1,hB,hT⟩:=Bn.out rfl;obtain⟨h5,Cy⟩:=eJ.out.zK;subst h5;have CV:=ae (show R.fh l=R.Ck (R.Bm ts r) by rw[HR.out,R.arC (R.sA uU.out) Cy]);have HB:=ae hB;have HT:=ae hT;have cV:=ae bO;have hts:ts.length<=255:=by have:=tP.out;omega
      clear hB hT Bn bO eJ Cy HR uU hi cP cQ cZ tP Hj;go_wp2_with fail;refine(yc r 1 false wr (by decide) (by decide) (by omega)).mono ?_;rintro e w2⟨rfl,g2⟩;have yj:=R.ET r false;have fP:=(wK r 1 false).1;obtain⟨⟨n2,r2,wu⟩,uV⟩:∃p,Hid (R.take r 1 false=p):=⟨_,rfl⟩;rw[uV.out] at yj fP ⊢;have bn:0<=n2/\n2<=255:=yj;have zq:Hid (r2.length<=l.length):=by have:r2.length<=r.length:=fP;unfold Hid;omega
      obtain⟨n,rfl⟩:=fT bn.1;have ad6:(n:Int)<=255:=bn.2;have iD:=ae (HB.out.kept g2 (by simp));have sr:=ae (HT.out.Z g2);have dU:=ae (aC cV.out g2);clear yj fP bn g2 HB HT cV;obtain⟨i0,hi,cP,cQ,cZ⟩:=info_parts Tryz.ary;go_wp2;go_loopw[0,6,12] (fun s KN i wr=>∃(j:Nat) (os:List R.Op) (r:List UInt8) (b:Bool),Hid (j<=n)/\i=.int .i64 j/\s=.string (S9 r)/\KN=.bool b/\Hid (os.length<=j)/\Hid (pZ R.op n r2 wu j os r b)/\Hid (ad4 wr w.heap.size l.length b ts a1 c1 os r)/\w.grownBy wr none) (fun _ _ i _=>n-(intOf i).toNat)
      case atStart=>exact⟨0,[],r2,wu,bK _,rfl,rfl,rfl,bj _,pZ.start _ _ _ _,(fun _=>⟨zq.out,none,0,iD.out,sr.out,pk.nil _ _⟩),dU.out⟩
      case round=>
       obtain⟨j,os,r,b,Hj,rfl,rfl,rfl,tP,eJ,Bn,bO⟩:=hrel;by_cases aJ:j<n
       ·have dW:=ae aJ
        cases b with
        |true=>
         obtain⟨gJ,av,cv,hB,hT,hO⟩:=Bn.out rfl;have HB:=ae hB;have HT:=ae hT;have HO:=ae hO;have gQ:w.heap.size<wr.heap.size:=hB.lt;clear hB hT hO Bn;go_wp2_with fail;refine(art r wr (by omega)).mono ?_;rintro e w8⟨g8,zL⟩;have jG:∃(k:Int) (is:List Int) (ao:Option Addr) (m cp:Nat) (ot:Int) (ns:List Int) (dO:Option Addr) (m2 qD:Nat) (r':List UInt8) (bb:Bool),e=.returned (.tuple #[.agg (o4 k (.slice ao m cp) ot (.slice dO m2 qD)),.string (S9 r'),.bool bb])/\Hid (pZ R.op n r2 wu (j+1) (os++[⟨k,is,ot,ns⟩]) r' bb)/\Hid (bb=true->r'.length<=l.length/\m=is.length/\m2=ns.length/\aZ w8 wr.heap.size (.slice ao is.length cp) is/\aZ w8 wr.heap.size (.slice dO ns.length qD) ns):=by
          rcases zL with⟨k,ao,m,cp,ot,dO,m2,qD,r',oU,rfl⟩|⟨o,ao,cp,dO,qD,r',ht,rY,rfl,hI,hN⟩
          ·exact⟨k,[],ao,m,cp,ot,[],dO,m2,qD,r',false,rfl,eJ.out.Dj oU.out dW.out,fun h=>aN h (by decide)⟩
          ·exact⟨o.af,o.ins,ao,o.ins.length,cp,o.out,o.cO,dO,o.cO.length,qD,r',true,rfl,eJ.out.go ht.out,fun _=>⟨by omega,rfl,rfl,hI,hN⟩⟩
         obtain⟨k,is,ao,m,cp,ot,ns,dO,m2,qD,r',bb,rfl,lV,tE⟩:=jG;clear zL;have jy:=ae (HB.out.kept g8 (by simp));have AO:=ae (HT.out.Z g8);have HO8:=ae (HO.out.Z g8);have fD:=ae (aC bO g8);have Uf:wr.heap.size<=w8.heap.size:=g8.size;clear g8 bO HB HT HO;obtain⟨W,HW⟩:∃W,Hid ((w8.alloc (.cells #[.int .i64 k,.slice ao m cp,.int .i64 ot,.slice dO m2 qD] 110))=W):=⟨_,rfl⟩;have gW:w8.grownBy W none:=by rw[<-HW.out];exact aQ _ _ _
         have BT:aj W w8.heap.size 110 #[.int .i64 k,.slice ao m cp,.int .i64 ot,.slice dO m2 qD]:=by rw[<-HW.out];exact aj.bA _ _ _
         obtain⟨t0,t1,t2,t3⟩:=wP BT;have Bo:=ae (jy.out.kept gW (by simp));have q0:W.cell? ⟨w.heap.size,1,none⟩=some (.slice av os.length cv):=Bo.out.cell 1;have KP:=ae (AO.out.Z gW);have HOW:=ae (HO8.out.Z gW);have uE:=ae (aC fD.out gW);have y0:=cell_regrown q0;have y1:=cell_regrown t0;have y2:=cell_regrown t1;have y3:=cell_regrown t2;have y4:=cell_regrown t3;have GC:=ae gW;clear gW BT t0 t1 t2 t3 q0 jy AO HO8 fD;go_wp2_with fail;rw[HW.out];refine CR 5 6 (fun w'=>∃p:Regrown,w'=Go.Sort.grow (redrawn W p.d) p.os) (W.drew.alloc (.cells #[.int .i64 k,.slice ao m cp,.int .i64 ot,.slice dO m2 qD] 110)) (by kernel_rfl) (by kernel_rfl) (by decide) ⟨⟨W.drawn+1,#[]⟩,by rw[Go.Sort.grow_empty];rfl⟩ ⟨⟨W.drawn+1,#[.cells #[.int .i64 k,.slice ao m cp,.int .i64 ot,.slice dO m2 qD] 110]⟩,rfl⟩ ?_;simp only[List.take_succ_cons,List.take_zero,List.drop_succ_cons,List.drop_zero]
         repeat (refine zF (by decide) (fun K hK=>?_);go_simp;refine hK _ ?_;clear hK K)
         refine CS (.slice (some ⟨W.heap.size,0,none⟩) 1 1) ?hw ?hr ?_
         case hw=>rfl
         case hr=>go_simp
         refine CT ?_;clear y0 y1 y2 y3 y4;obtain⟨ps,p1,p2,p3⟩:=HOW.out;have P2:=ae (eY p2 (gE W none));have ju:w.heap.size+1<=W.heap.size:=by have:=Bo.out.lt;omega
         have Ug:os.length<=255:=by have:=tP.out;have:=dW.out;omega
         have mC:=ae p2;clear p2;go_wp2_with(at_builtin;refine nD _ rfl _ _ 68 rfl (w.heap.size+1) 110 i0 (.agg #[.int .i64 0,.slice none 0 0,.int .i64 0,.slice none 0 0]) 4 64 underlying68 hi cP cQ cZ rfl (by decide) _ _ _ rfl (lB P2.out _) ⟨W.heap.size,0,none⟩ 1 1 [.int .i64 k,.slice ao m cp,.int .i64 ot,.slice dO m2 qD] rfl rfl ?k1 ?k2 ?k3 ?k4 ?k5 ?_)
         case k2=>exact⟨rfl,rfl,rfl,rfl⟩
         case k3=>unfold maxLen;omega
         case k4=>omega
         case k5=>omega
         intro v' w9 dC cR _;have bq:W.grownBy w9 (Value.slice av os.length cv).ownBlock:=aC (aC (aQ W _ _) (gE _ _)) cR;have dR:=mJ mC.out;have fA:=Bo.out.kept bq (by intro e;have:=dR _ e.symm;omega);have e4:w9.cell? ⟨w.heap.size,1,none⟩=some (.slice av os.length cv):=fA.cell 1;have f4:=fA.free 1;have hl9:=fA.lt;have HT9:Hid (pf w9 (w.heap.size+1) (.slice a1 ts.length c1) ts):=by
          obtain⟨us,u1,u2,u3⟩:=KP.out;exact⟨us,u1,oc u2 mC.out (by decide) bq,fun p hp=>oc (u3 p hp) mC.out (by decide) bq⟩
         have jh:=ae (dF (l8 uE.out bq (fun g hg=>by have:=dR g hg;omega)) (bD w9 w.heap.size 1 v') (bj _));obtain⟨eQ,eR,hv⟩:=gP dC;have KQ:Hid (ad4 (w9.setCell ⟨w.heap.size,1,none⟩ v') w.heap.size l.length bb ts a1 c1 (os++[⟨k,is,ot,ns⟩]) r'):=fun hb=>by
          obtain⟨rY,hm,JH,hI,hN⟩:=tE.out hb;subst hm JH;have hO9:pk w9 (w.heap.size+1) v' (os++[⟨k,is,ot,ns⟩]):=pk.py p1 mC.out p3 ((hI.Z GC.out).mono (by omega)) ((hN.Z GC.out).mono (by omega)) bq dC;rw[hv] at hO9 ⊢;refine⟨rY,eQ,eR,?_,HT9.out.kept (bD w9 w.heap.size 1 (.slice eQ (os.length+1) eR)) (Nat.lt_succ_self _),?_⟩
          ·have e:=fA.set 1 (.slice eQ (os.length+1) eR)
           simpa using e
          ·have e:=hO9.kept (bD w9 w.heap.size 1 (.slice eQ (os.length+1) eR)) (Nat.lt_succ_self _)
           simpa using e
         have Uh:Hid ((os++[(⟨k,is,ot,ns⟩:R.Op)]).length<=j+1):=by have:=tP.out;unfold Hid;simp;omega
         have BN:=dW.out;rw[hv] at jh KQ ⊢;clear hv dC cR bq dR mC P2 p1 p3 fA Bo KP HOW uE tE GC ju Ug gJ gQ Uf HT9;go_wp2;go_roundw
         case rel=>exact⟨j+1,_,r',bb,(by have:=dW.out;unfold Hid;omega),by go_num,rfl,rfl,Uh.out,lV.out,KQ.out,jh.out⟩
         case measure=>have:=dW.out;simp[intOf];omega
        |false=>
         have HN:=ae (show R.fh l=none by
          rw[CV.out];rcases eJ.out.no with h|h
          ·subst h;rw[R.Pb (R.qC uV.out)];rfl
          ·cases h5:wu with
           |false=>rw[h5] at uV;rw[R.Pb (R.qC uV.out)];rfl
           |true=>rw[h5] at uV;rw[R.ad1 (R.sA uV.out) h];rfl)
         have cV:=ae bO;clear bO;go_wp2
         go_ret2
         exact⟨cV.out,.inl (by first|exact⟨HN.out,rfl⟩|rfl)⟩
       ·have rz:j=n:=by have:=Hj.out;omega
        subst rz
        cases b with
        |false=>
         have HN:=ae (show R.fh l=none by
          rw[CV.out];rcases eJ.out.no with h|h
          ·subst h;rw[R.Pb (R.qC uV.out)];rfl
          ·cases h5:wu with
           |false=>rw[h5] at uV;rw[R.Pb (R.qC uV.out)];rfl
           |true=>rw[h5] at uV;rw[R.ad1 (R.sA uV.out) h];rfl)
         have cV:=ae bO;clear bO;go_wp2
         go_ret2
         exact⟨cV.out,.inl (by first|exact⟨HN.out,rfl⟩|rfl)⟩
        |true=>
         obtain⟨gJ,a2,c2,hB,hT,hO⟩:=Bn.out rfl;obtain⟨h5,Cy⟩:=eJ.out.zK;subst h5;have CW:=ae (show R.fh l=R.Ck (R.Bl ts os r) by rw[CV.out,R.arD (R.sA uV.out) Cy]);have HB:=ae hB;have HT:=ae hT;have HO:=ae hO;have cV:=ae bO;clear hB hT hO Bn bO eJ Cy CV uV hi cP cQ cZ tP Hj;go_wp2_with fail;refine(yc r 1 false wr (by decide) (by decide) (by omega)).mono ?_;rintro e w3⟨rfl,g3⟩;have yj:=R.ET r false;have fP:=(wK r 1 false).1;obtain⟨⟨n3,r3,ok3⟩,Ui⟩:∃p,Hid (R.take r 1 false=p):=⟨_,rfl⟩;rw[Ui.out] at yj fP ⊢;have bn:0<=n3/\n3<=255:=yj;have Ke:Hid (r3.length<=l.length):=by have:r3.length<=r.length:=fP;unfold Hid;omega
         obtain⟨n,rfl⟩:=fT bn.1;have ad6:(n:Int)<=255:=bn.2;have fU:=ae (HB.out.kept g3 (by simp));have rm:=ae (HT.out.Z g3);have Be:=ae (HO.out.Z g3);have fR:=ae (aC cV.out g3);clear yj fP bn g3 HB HT HO cV
         cases ok3 with
         |false=>
          have HN:=ae (show R.fh l=none by rw[CW.out,R.arE (R.qC Ui.out)];rfl);go_wp2
          go_ret2
          exact⟨fR.out,.inl (by first|exact⟨HN.out,rfl⟩|rfl)⟩
         |true=>
          have yk:=ae (R.sA Ui.out);go_wp2_with fail;refine(KD r3 n 1 false w3 (by decide) (by decide) (by have:=Ke.out;omega) (by omega)).mono ?_;rintro e w4⟨g4,⟨r4,tN,De,rfl⟩|⟨a4,c4,us,r4,pb,rfl,lS⟩⟩
          ·have HN:=ae (show R.fh l=none by rw[CW.out,R.arF yk.out (by rw[eC];exact tN)];rfl)
           have kC:=fU.out.kept g4 (by simp);have e4:w4.cell? ⟨w.heap.size,2,none⟩=some (.slice none 0 0):=kC.cell 2;have f4:=kC.free 2;have vU:=kC.lt;have fC:=ae (dF (aC fR.out g4) (bD w4 w.heap.size 2 (.slice none 0 0)) (bj _));clear g4 tN kC fU rm Be CW yk;go_wp2
           go_ret2
           exact⟨fC.out,.inl (by first|exact⟨HN.out,rfl⟩|rfl)⟩
          ·have kC:=fU.out.kept g4 (by simp)
           have e4:w4.cell? ⟨w.heap.size,2,none⟩=some (.slice none 0 0):=kC.cell 2;have f4:=kC.free 2;have vU:=kC.lt;have Ju:w.heap.size<w3.heap.size:=fU.out.lt;have gs:=bD w4 w.heap.size 2 (.slice a4 us.length c4);have fC:=ae (dF (aC fR.out g4) gs (bj _));have Pc:=ae (show R.fh l=R.Ck (some (⟨ts,os,us⟩,r4)) by rw[CW.out,R.arG yk.out (by rw[eC];exact pb.out)]);have zM:Hid (lF (w4.setCell ⟨w.heap.size,2,none⟩ (.slice a4 us.length c4)) w.heap.size ⟨ts,os,us⟩):=
            ⟨a1,c1,a2,c2,a4,c4,kC.set 2 (.slice a4 us.length c4),(rm.out.Z g4).kept gs (Nat.lt_succ_self _),(Be.out.Z g4).kept gs (Nat.lt_succ_self _),(lS.kept gs Ju).mono (by omega)⟩
           clear g4 kC fU rm Be CW yk gs lS pb;have qS:=Gn r4
           cases r4 with
           |nil=>
            have HN:=ae (show R.fh l=some ⟨ts,os,us⟩ from Pc.out);have arM:(S9 ([]:List UInt8)).toList.isEmpty=true:=by rw[Lib.toList_data];rfl
            clear Pc;go_wp2
            go_ret2
            exact⟨fC.out,.inr ⟨⟨ts,os,us⟩,HN.out,rfl,zM.out⟩⟩
           |cons x xs=>
            have HN:=ae (show R.fh l=none from Pc.out);have arM:(S9 (x::xs)).toList.isEmpty=false:=by rw[Lib.toList_data];rfl
            clear Pc;go_wp2
            go_ret2
            exact⟨fC.out,.inl (by first|exact⟨HN.out,rfl⟩|rfl)⟩
structure WfR(o:R.Op):Prop where
 af:R.bT o.af≠none
 Pd:0<=o.out
 arN:o.out<=255
 ins:∀x∈o.ins,0<=x/\x<=255
 inl:(o.ins.length:Int)=R.dd o.af
 cO:∀x∈o.cO,-2147483648<=x/\x<=2147483647
 nul:o.cO.length=(R.iz o.af).length
 byt:∀(k:Nat) x,(R.iz o.af)[k]?=some (Char.ofNat 117)->o.cO[k]?=some x->0<=x/\x<=255
structure EX(g:R.bX):Prop where
 nt:g.ts.length<=255
 no:g.ag.length<=255
 nu:g.aK.length<=255
 ts:∀t∈g.ts,dZ t
 ds:∀t∈g.ts,∀x∈t.data,-2147483648<=x/\x<=2147483647
 dl:∀t∈g.ts,t.data.length<=16777216
 os:∀o∈g.ag,WfR o
 us:∀u∈g.aK,0<=u/\u<=255
theorem GD(a o:Nat)(t:M.Tn)(w:World)(wt:dZ t)(d1:w.cell? ⟨a,o+1,none⟩=some (.int .i64 t.h))(d2:w.cell? ⟨a,o+2,none⟩=some (.int .i64 t.w))(d3:w.cell? ⟨a,o+3,none⟩=some (.int .i64 t.c)) :
  Calls prog 90 #[.pointer (some ⟨a,o,none⟩)] w fun e w'=>e=.returned (.int .i64 (M.cellsOf t))/\∃n,w'=w.drewN n:=by
 obtain⟨m0,m1,n0,n1⟩:=xn wt.h0 wt.h1 wt.w0 wt.w1 wt.c0 wt.c1;have He:=ae (show M.cellsOf t=t.h*t.w*t.c from rfl);clear wt;generalize t.h=h at *;generalize t.w=v at *;generalize t.c=c at *;have q1:IntKind.i64.wrap (h*v)=h*v:=by rw[cU];omega
 have q2:IntKind.i64.wrap (h*v*c)=h*v*c:=by rw[cU];omega
 go_enter func90,ntmps90;go_wp2;go_quiet(fail);go_wp2;go_ret;exact⟨cH He.out.symm,nq,rfl⟩
theorem yl(a o:Nat)(t:M.Tn)(h v c:Int)(w:World)(d1:w.cell? ⟨a,o+1,none⟩=some (.int .i64 t.h))(d2:w.cell? ⟨a,o+2,none⟩=some (.int .i64 t.w))(d3:w.cell? ⟨a,o+3,none⟩=some (.int .i64 t.c)) :
  Calls prog 114 #[.pointer (some ⟨a,o,none⟩),.int .i64 h,.int .i64 v,.int .i64 c] w fun e w'=>e=.returned (.bool (R.iV t h v c))/\w'=w:=by
 have He:=ae (show R.iV t h v c=((t.h==h&&t.w==v)&&t.c==c) from rfl);generalize t.h=th at *;generalize t.w=tw at *;generalize t.c=tc at *
 cases k1:(th==h) with
 |false=>
  go_enter func114,ntmps114;go_wp2;go_ret;exact⟨bB (by rw[He.out,k1];rfl),rfl⟩
 |true=>
  cases k2:(tw==v) with
  |false=>
   go_enter func114,ntmps114;go_wp2;go_ret;exact⟨bB (by rw[He.out,k1,k2];rfl),rfl⟩
  |true=>
   go_enter func114,ntmps114;go_wp2;go_ret;exact⟨bB (by rw[He.out,k1,k2];rfl),rfl⟩
namespace R
theorem arP{g:bX}{k:Nat}{t:M.Tn}(ht:g.ts[k]?=some t)(h:M.cellsOf t=0\/512<M.cellsOf t):uQ g=false:=by
 have h2:g.ts.all (fun t=>!(decide (M.cellsOf t=0)||decide (512<M.cellsOf t)))=false:=by
  rw[List.all_eq_false];refine⟨t,bU ht,?_⟩;rcases h with h|h<;>simp[h]
 unfold uQ;rw[h2]
 rfl
theorem arQ{g:bX}{sum:Int}(h:BM g.ts g.ts.length sum):uQ g=(decide (g.ts.length<=24)&&decide (g.ag.length<=16)&&decide (sum<=2048)&&decide (0<g.aK.length)):=by
 have ha:=h.all;have he:=h.eq;rw[jm] at ha he;unfold uQ;have h2:g.ts.all (fun t=>!(decide (M.cellsOf t=0)||decide (512<M.cellsOf t)))=true:=by
  rw[jn] at ha ⊢;intro t ht;have:=ha t ht;unfold M.vu at this;simp at this ⊢;omega
 rw[h2,he]
 rfl
end R
theorem arR(b:Nat)(g:R.bX)(w:World)(h:lF w b g)(hw:EX g) :
  Calls prog 70 #[.pointer (some ⟨b,0,none⟩)] w fun e w'=>e=.returned (.bool (R.uQ g))/\w.grownBy w' none:=by
 have iq:=hw.nt;have kl:=hw.no;have BN:=hw.nu;have HW:=ae hw;obtain⟨a1,c1,a2,c2,a3,c3,hB,hT,hO,hU⟩:=h;have HB:=ae hB;have HT:=ae hT;clear hB hT hO hU hw;go_enter func70,ntmps70;go_wp2;go_loopw[3,4] (fun s i wr=>∃(j:Nat) (sum:Int),Hid (j<=g.ts.length)/\i=.int .i64 j/\s=.int .i64 sum/\Hid (BM g.ts j sum)/\w.grownBy wr none) (fun _ i _=>g.ts.length-(intOf i).toNat)
 case atStart=>exact⟨0,0,bK _,rfl,rfl,⟨by simp[M.sumTo],by omega,by simp,by simp⟩,fZ _ _⟩
 case round=>
  obtain⟨j,sum,Hj,rfl,rfl,HL,bO⟩:=hrel;have eP:=HB.out.kept bO (by simp);have q0:wr.cell? ⟨b,0,none⟩=some (.slice a1 g.ts.length c1):=eP.cell 0;have q1:wr.cell? ⟨b,1,none⟩=some (.slice a2 g.ag.length c2):=eP.cell 1;have q2:wr.cell? ⟨b,2,none⟩=some (.slice a3 g.aK.length c3):=eP.cell 2;have s0:=HL.out.lo;have s1:=HL.out.hi;have cV:=ae bO;by_cases aJ:j<g.ts.length
  ·obtain⟨t,ht⟩:∃t,g.ts[j]?=some t:=⟨_,aS aJ⟩
   obtain⟨ga,ao,cp,rfl,-,-,-,d0,d1,d2,d3,-,-⟩:=(HT.out.Z bO).get j t ht;have wt:=HW.out.ts t (bU ht);have Ht:=ae ht;have wi:=ae wt;clear ht wt eP bO;go_wp2_with fail;refine(GD ga (j*6) t wr wi.out d1 d2 d3).mono ?_;rintro e w2⟨rfl,nd,rfl⟩;have dU:=ae (aC cV.out (bE wr nd none));have GF:0<=M.cellsOf t/\M.cellsOf t<=16581375:=by
    have:=xn wi.out.h0 wi.out.h1 wi.out.w0 wi.out.w1 wi.out.c0 wi.out.c1;unfold M.cellsOf;omega
   by_cases fB:M.cellsOf t=0\/512<M.cellsOf t
   ·have HN:=ae (R.arP Ht.out fB)
    have pY:(M.cellsOf t==0)=true\/((M.cellsOf t==0)=false/\decide (M.cellsOf t > 512)=true):=by
     rcases fB with hb|hb
     ·exact .inl (by simp[hb])
     ·exact .inr ⟨by simp;omega,eG hb⟩
    clear fB GF;generalize M.cellsOf t=n at *;rcases pY with k1|⟨k1,k2⟩
    all_goals
     go_wp2;go_ret;exact⟨bB HN.out.symm,dU.out⟩
   ·have k1:(M.cellsOf t==0)=false:=by simp;omega
    have k2:decide (M.cellsOf t > 512)=false:=eE (by omega);have q8:=ae (HL.out.step Ht.out (by omega) (by omega));have GG:1<=M.cellsOf t/\M.cellsOf t<=512:=by omega
    clear fB GF;have aee:part t=if t.af=0\/t.af=3 then M.cellsOf t else 0:=rfl;have Hp:=ae aee;clear aee;generalize M.cellsOf t=n at *;obtain⟨IU,hn9⟩:=GG;have pY:(t.af==0)=true/\part t=n\/((t.af==0)=false/\(t.af==3)=true/\part t=n)\/((t.af==0)=false/\(t.af==3)=false/\part t=0):=by
     by_cases h0:t.af=0
     ·exact .inl ⟨by simp[h0],by rw[Hp.out,ay (.inl h0)]⟩
     ·by_cases h3:t.af=3
      ·exact .inr (.inl ⟨by simp[h0],by simp[h3],by rw[Hp.out,ay (.inr h3)]⟩)
      ·exact .inr (.inr ⟨by simp[h0],by simp[h3],by rw[Hp.out,ak (by omega)]⟩)
    rcases pY with⟨z1,zp⟩|⟨z1,z2,zp⟩|⟨z1,z2,zp⟩
    all_goals
     rw[zp] at q8;clear zp;go_wp2;go_roundw
     case rel=>exact⟨j+1,_,(by unfold Hid;omega),by go_num,(by first|rfl|(simp;done)),q8.out,dU.out⟩
     case measure=>simp[intOf];omega
  ·obtain rfl:j=g.ts.length:=by have:=Hj.out;omega
   have He:=ae (R.arQ HL.out);clear aJ eP bO;by_cases y1:g.ts.length<=24
   ·by_cases y2:g.ag.length<=16
    ·by_cases y3:sum<=2048
     ·have z3:decide (sum<=2048)=true:=eG y3
      go_wp2;go_ret;refine⟨bB ?_,cV.out⟩;rw[He.out,eG y1,eG y2,eG y3];simp
     ·have z3:decide (sum<=2048)=false:=eE y3
      have Y3:=ae y3;clear y3;go_wp2;go_ret;refine⟨bB ?_,cV.out⟩;rw[He.out,eE (show ¬sum<=2048 by have:=Y3.out;omega)];simp
    ·go_wp2
     go_ret;refine⟨bB ?_,cV.out⟩;rw[He.out,eE y2];simp
   ·go_wp2
    go_ret;refine⟨bB ?_,cV.out⟩;rw[He.out,eE y1];simp
end Go.Proofs.YtcnhfffgbamonaaGreat
