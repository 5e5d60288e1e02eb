import Derived.Test.YtcnhfffgbamonaaGreatRows
import Derived.ProofKit
import Derived.OpenShut
import Derived.JoinedCond
import Derived.ChangeSlices
import Derived.Carry
import Derived.Test.YtcnhfffgbamonaaGreatZ44
set_option maxRecDepth 100000
set_option maxHeartbeats 6400000
namespace Go.Proofs.YtcnhfffgbamonaaGreat.raw
open Go.Proofs.Tryz
open ChangeShapes WideShapes ChangeAt RowKit
open Go.ChangeMaps (open_string shut_string)
theorem cT:ownKnob prog.godebug=none:=by kernel_rfl
theorem awb:prog.cellsOf 33=1:=by kernel_rfl
theorem Ic:prog.cellsOf 3=1:=by kernel_rfl
theorem LP:laidOutB prog=true:=by kernel_rfl
theorem V8{H:Type}(d:DataW H):1<=Rows.uptoBulk d:=by
 cases d with
 |lit l=>cases l<;>simp[Rows.uptoBulk]
 |nil=>simp[Rows.uptoBulk]
 |ptr d=>simp[Rows.uptoBulk]
 |slice qK awc=>simp[Rows.uptoBulk]
 |agg awd=>simp[Rows.uptoBulk]
 |iface t d=>simp[Rows.uptoBulk]
 |map awe=>simp[Rows.uptoBulk]
 |held h=>simp[Rows.uptoBulk]
theorem P8{H:Type}{d:DataW H}{l:List (DataW H)}(h:d∈l):Rows.uptoBulk d<=Rows.uptoBulkAll l:=by
 induction l with
 |nil=>cases h
 |cons x r ih=>
  simp only[Rows.uptoBulkAll];rcases List.mem_cons.1 h with e|e
  ·subst e;omega
  ·have:=ih e;omega
theorem P9{H:Type}(l:List (DataW H)):l.length<=Rows.uptoBulkAll l:=by
 induction l with
 |nil=>simp[Rows.uptoBulkAll]
 |cons x r ih=>have:=V8 x;simp only[Rows.uptoBulkAll,pN];omega
theorem awf{H:Type}{enc:TypeId×Value->H}{W:World}{n:Nat}{v:Value}{x:DataW H×List MemPlace}(h:DataW.trod enc prog W 0 (fun _=>true) true n 33 [v]=some x):
 ∃ao cp,∃l:List Int,v=.slice ao l.length cp/\Sl W v l/\l.length<=Rows.uptoBulk x.1:=by
 rcases open_ints underlying33 underlying3 Ic h with⟨iU,hx⟩|⟨a,len,cap,zs,iU,-,hl,-,hz,hx,JU,-⟩
 ·have e:v=.slice none 0 0:=by simpa using iU
  exact⟨none,0,[],e,⟨none,0,e,fun i y hy=>by cases hy⟩,by simp⟩
 ·have e:v=.slice (some a) len cap:=by simpa using iU
  have xM:zs.length=cap:=by simpa using hz
  have iX:(zs.take len).length=len:=by rw[xE];omega
  refine⟨some a,cap,zs.take len,by rw[iX];exact e,⟨some a,cap,by rw[iX];exact e,fun i y hy=>⟨a,rfl,?_⟩⟩,?_⟩
  ·have hi:i<len:=by have:=M.bP hy;omega
   rw[List.getElem?_take_of_lt hi] at hy;rw[JU i (by omega)];simp[List.getD,hy]
  ·rw[hx]
   simp only[Rows.uptoBulk];have:=P9 (lits (H:=H) .i64 (zs.take len));have e2:(lits (H:=H) .i64 (zs.take len)).length=(zs.take len).length:=by simp[lits]
   omega
theorem awg{H:Type}{enc:TypeId×Value->H}{W:World}{v:Value}{d:DataW H}{p:List MemPlace}(hv:∃a len cap,v=.slice a len cap)(h:DataW.Trod enc prog W 0 (fun _=>true) true 25 v d p):
 ∃ao cp,∃ins:List (List Int),v=.slice ao ins.length cp/\rD W W v ins/\ins.length<=Rows.uptoBulk d/\∀l∈ins,l.length<=Rows.uptoBulk d:=by
 obtain⟨n,h⟩:=h;obtain⟨a0,l0,c0,rfl⟩:=hv;rcases DataW.trod_slice underlying25 h with⟨iU,hx⟩|⟨a,len,cap,qK,rest,n',-,iU,hx,-,hl,-,iX,V9,-,-⟩
 ·have e:Value.slice a0 l0 c0=.slice none 0 0:=by simpa[Value.cells] using iU
  exact⟨none,0,[],e,⟨none,0,e,fun i l hl=>by cases hl⟩,by simp,by simp⟩
 ·have e:Value.slice a0 l0 c0=.slice (some a) len cap:=by simpa[Value.cells] using iU
  have hd:d=.slice (qK.map (·.1)) (rest.map (·.1)):=by have:=congrArg Prod.fst hx;simpa using this
  have cF:∀(i:Nat) y,qK[i]?=some y->∃ao cp,∃l:List Int,W.cell? (a.add i)=some (.slice ao l.length cp)/\Sl W (.slice ao l.length cp) l/\l.length<=Rows.uptoBulk y.1:=fun i y hy=>by
   have hi:i<len:=by have:=M.bP hy;omega
   have h1:=V9 i hi;rw[hy,awb,Nat.mul_one,Option.bind_eq_some_iff] at h1;obtain⟨ua,hc,ht⟩:=h1;have h2:=(World.cells?_some hc).2.2 0 (by omega);obtain⟨u,rfl⟩:∃u,ua=[u]:=by
    have:=(World.cells?_some hc).2.1;rcases ua with _|⟨u,_|_⟩
    ·simp at this
    ·exact⟨u,rfl⟩
    ·simp at this
   obtain⟨ao,cp,l,rfl,hS,hb⟩:=awf ht;exact⟨ao,cp,l,by simpa[Addr.add] using h2,hS,hb⟩
  obtain⟨ins,fq,cY⟩:∃ins:List (List Int),ins.length=qK.length/\∀(i:Nat) l,ins[i]?=some l->∃y,qK[i]?=some y/\∃ao cp,W.cell? (a.add i)=some (.slice ao l.length cp)/\Sl W (.slice ao l.length cp) l/\l.length<=Rows.uptoBulk y.1:=by
   have LN:∀(es:List (DataW H×List MemPlace)) (o:Nat),(∀(i:Nat) y,es[i]?=some y->∃ao cp,∃l:List Int,W.cell? (a.add (o+i))=some (.slice ao l.length cp)/\Sl W (.slice ao l.length cp) l/\l.length<=Rows.uptoBulk y.1)->∃ins:List (List Int),ins.length=es.length/\∀(i:Nat) l,ins[i]?=some l->∃y,es[i]?=some y/\∃ao cp,W.cell? (a.add (o+i))=some (.slice ao l.length cp)/\Sl W (.slice ao l.length cp) l/\l.length<=Rows.uptoBulk y.1:=fun es=>by
    induction es with
    |nil=>exact fun o _=>⟨[],rfl,fun i l hl=>by cases hl⟩
    |cons y es ih=>
     intro o hk;obtain⟨ao,cp,l,h1,h2,h3⟩:=hk 0 y rfl;obtain⟨ins,h4,h5⟩:=ih (o+1) (fun i y hy=>by have:=hk (i+1) y (by simpa using hy);rwa [show o+1+i=o+(i+1) by omega]);refine⟨l::ins,by simp[h4],fun i l' fI=>?_⟩
     cases i with
     |zero=>simp at fI;subst fI;exact⟨y,rfl,ao,cp,h1,h2,h3⟩
     |succ i=>
      obtain⟨y',e1,e2⟩:=h5 i l' (by simpa using fI);exact⟨y',by simpa using e1,by rwa [show o+(i+1)=o+1+i by omega]⟩
   obtain⟨ins,h4,h5⟩:=LN qK 0 (fun i y hy=>by rw[Nat.zero_add];exact cF i y hy);exact⟨ins,h4,fun i l hl=>by have:=h5 i l hl;rwa [Nat.zero_add] at this⟩
  have e1:ins.length=len:=by omega
  refine⟨some a,cap,ins,by rw[e1];exact e,⟨some a,cap,by rw[e1];exact e,fun i l hl=>?_⟩,?_,fun l hl=>?_⟩
  ·obtain⟨y,-,ao,cp,h1,h2,-⟩:=cY i l hl
   exact⟨a,ao,cp,rfl,h1,.inl h2⟩
  ·rw[hd]
   simp only[Rows.uptoBulk];have:=P9 (qK.map (·.1));rw[jb] at this;omega
  ·obtain⟨i,hi⟩:=List.mem_iff_getElem?.1 hl
   obtain⟨y,hy,ao,cp,-,-,hb⟩:=cY i l hi;have h6:=P8 (d:=y.1) (List.mem_map.2 ⟨y,bU hy,rfl⟩:y.1∈qK.map (·.1));rw[hd];simp only[Rows.uptoBulk];omega
theorem Fg(H:Type)(enc:TypeId×Value->H)(W:World)(base:Nat)(args:Array Value)(ds gs:List (DataW H))(sJ:List MemPlace)
  (oN:∀(j:Nat) t v,Tryz.f6.params[j]?=some t->args[j]?=some v->Value.okWide prog W .any base t v)
  (hW:DataW.Whole enc prog Tryz.f6.params.toList Rows.rawSpec.vars false W args.toList ds gs sJ) (hk:Rows.uptoSmall H (ds++gs)=true):
 Calls prog 6 args W fun e W'=>∃v,e=.returned v/\Rows.rawSpec.post enc prog Tryz.f6 false true false false W args v W':=by
 have pU:=hW;obtain⟨p,q,yy,hV,rfl,Wa,Et⟩:=hW;have hA:DataW.TrodAll enc prog W 0 (fun _=>true) true Tryz.f6.params.toList args.toList ds p:=yy;rw[Tryz.params6] at hA oN;obtain⟨v0,Wb,d0,Wc,p0,q0,Wd,rfl,rfl,h0,r0⟩:=trodAll_cons hA;obtain⟨v1,vs1,d1,ds1,p1,q1,rfl,rfl,rfl,h1,r1⟩:=trodAll_cons r0;obtain⟨rfl,rfl,rfl⟩:=trodAll_nil r1;obtain rfl:args=#[v0,v1]:=by cases args;simp_all
 obtain⟨rfl,rfl⟩:=trodVars_none hV;obtain⟨s,rfl,rfl,rfl,awh⟩:=open_string underlying9 (oN 0 9 v0 rfl rfl) h0;obtain⟨ao,cp,ins,rfl,hI,hn,hl⟩:=awg (okWide_slice underlying25 (oN 1 25 v1 rfl rfl)) h1;clear yy;simp only[List.append_nil] at pU hk;have hb:Rows.uptoBulkAll [DataW.lit (H:=H) (.string s.data.toList),d1]<=1048576:=of_decide_eq_true hk;simp only[Rows.uptoBulkAll] at hb;have hs:s.size<=1048576:=by
  simp only[Rows.uptoBulk] at hb;have e:s.data.toList.length=s.size:=by rw[Array.length_toList];rfl
  omega
 refine(avY s ao ins.length cp ins W (by omega) hI (fun l fI=>by have:=hl l fI;omega) (by omega)).mono fun e W' ⟨he,hg⟩=>?_;subst he;refine⟨_,rfl,_,_,_,[],p1,[],pU,?_,?_,?_,(xj hg).frame _,fun h=>by cases h⟩
 ·exact trodAll_cons_mk (shut_bool underlying4 _) trodAll_mk0
 ·have e:=trodAll_cons_mk (shut_string underlying9 awh) (trodAll_cons_mk (Below.trod LP (by kernel_rfl) (of_decide_eq_true (by kernel_rfl)) h1 (xj hg) (fun x hx=>by simpa using pU.lt x (by simpa using hx))) trodAll_mk0)
  have e2:DataW.TrodAll enc prog W' 0 (fun b=>decide (b<W.heap.size)) true [9,25] [Value.string s,Value.slice ao ins.length cp] [DataW.lit (Lit.string s.data.toList),d1] p1:=by simpa using e
  exact e2
 ·rfl
theorem Fh(os:Os)(sK:os.Started)(H:Type)(enc:TypeId×Value->H)(F:Stop.Interp):
  ReturnsInHanded {} Tryz.checked os 6 .any ((Rows.OpenSpec.upto Rows.rawSpec).pre6 enc prog Tryz.f6 Rows.rawUptoRow.domain false) (((Rows.OpenSpec.upto Rows.rawSpec).at F).post enc prog Tryz.f6 false true false false):=by
 refine returnsInHanded_of_cond (C:=Tryz.checked) (s:=Rows.OpenSpec.upto Rows.rawSpec) (k:=Rows.uptoSmall) rfl cT sK (by kernel_rfl) func6
  (OpenSpec.witness (enc:=enc) (C:=Tryz.checked) (s:=Rows.OpenSpec.upto Rows.rawSpec) (k:=Rows.uptoSmall) rfl false ⟨#[],#[.string .empty,.slice none 0 0],[]⟩ 8 (by kernel_rfl) (by kernel_rfl) (by kernel_rfl)
   (x:=([.lit (.string []),.nil],[],[])) (by kernel_rfl) rfl (by kernel_rfl)) ?_
 intro W base args ds gs sJ oN hW _ hk _;exact Fg H enc W base args ds gs sJ oN hW hk
theorem Fi:Rows.RawUptoSaid:=
 OpenClaim.holds_of_cond 6 Tryz.f6 rfl rfl rfl rfl rfl rfl rfl ⟨rfl,rfl,rfl,rfl,rfl⟩ rfl rfl rfl rfl rfl (by kernel_rfl) func6 (by kernel_rfl)
  (of_decide_eq_true (by kernel_rfl)) (by unfold Func.isWrapper;first|(rw[ay (by decide +kernel)];kernel_rfl)|(rw[ak (by decide +kernel)];exact⟨rfl,rfl⟩))
  (fun os sK H enc _ F=>Fh os sK H enc F)
end Go.Proofs.YtcnhfffgbamonaaGreat.raw
namespace Go.Proofs.YtcnhfffgbamonaaGreat
open Go.Proofs.Tryz
theorem raw_holds:Rows.RawUptoSaid:=raw.Fi
#print axioms raw_holds
end Go.Proofs.YtcnhfffgbamonaaGreat
