import Derived.Test.YtcnhfffgbamonaaGreatZ47
set_option maxRecDepth 100000
set_option maxHeartbeats 6400000
namespace Go.Proofs.YtcnhfffgbamonaaGreat
open Go.Proofs.Tryz
open RowKit
theorem awW(ao:Option Addr)(n cp:Nat)(ag:List qb)(w:World)(hS:vq w (.slice ao n cp) ag)(nQ:∀o∈ag,o.ok)(hn:ag.length<=9223372036854775807):
 Calls prog 4 #[.slice ao n cp] w fun e w'=>e=.returned (.bool true)/\w.grownBy w' none:=by
 have HC:=ae (Wp ao n cp ag 7 7 w hS nQ hn);clear hS nQ;go_enter func4,ntmps4;go_wp2_with fail;refine HC.out.mono ?_;rintro e w2⟨rfl,hg⟩;have HG:=ae hg;clear hg HC;go_wp2;go_ret;exact⟨rfl,HG.out⟩
end Go.Proofs.YtcnhfffgbamonaaGreat
namespace Go.Proofs.YtcnhfffgbamonaaGreat.runs
open Go.Proofs.Tryz
open ChangeShapes WideShapes ChangeAt RowKit
theorem Fg(H:Type)(enc:TypeId×Value->H)(W:World)(base:Nat)(args:Array Value)(ds gs:List (DataW H))(sJ:List MemPlace)
  (oN:∀(j:Nat) t v,Tryz.f4.params[j]?=some t->args[j]?=some v->Value.okWide prog W .any base t v)
  (hW:DataW.Whole enc prog Tryz.f4.params.toList Rows.runsSpec.vars false W args.toList ds gs sJ) (hk:Rows.uptoSmall H (ds++gs)=true):
 Calls prog 4 args W fun e W'=>∃v,e=.returned v/\Rows.runsSpec.post enc prog Tryz.f4 false true false false W args v W':=by
 have pU:=hW;obtain⟨p,q,yy,hV,rfl,Wa,Et⟩:=hW;have hA:DataW.TrodAll enc prog W 0 (fun _=>true) true Tryz.f4.params.toList args.toList ds p:=yy;rw[Tryz.params4] at hA oN;obtain⟨v0,Wb,d0,Wc,p0,q0,Wd,rfl,rfl,h0,r0⟩:=trodAll_cons hA;obtain⟨rfl,rfl,rfl⟩:=trodAll_nil r0;obtain rfl:args=#[v0]:=by cases args;simp_all
 obtain⟨rfl,rfl⟩:=trodVars_none hV;obtain⟨ao,cp,ag,rfl,hS,hn,hl⟩:=scr.Wq (okWide_slice underlying22 (oN 0 22 v0 rfl rfl)) h0;clear yy;simp only[List.append_nil] at pU hk;have hb:Rows.uptoBulkAll [d0]<=1048576:=of_decide_eq_true hk;simp only[Rows.uptoBulkAll] at hb;refine(awW ao ag.length cp ag W hS (fun o ho=>by obtain⟨a,b,c,d⟩:=hl o ho;exact⟨a,b,c,by omega⟩) (by omega)).mono fun e W' ⟨he,hg⟩=>?_;subst he;refine⟨_,rfl,_,_,_,[],p0,[],pU,?_,?_,?_,(xj hg).frame _,fun h=>by cases h⟩
 ·exact trodAll_cons_mk (shut_bool underlying4 _) trodAll_mk0
 ·have e:=trodAll_cons_mk (Below.trod scr.LP (by kernel_rfl) (of_decide_eq_true (by kernel_rfl)) h0 (xj hg) (fun x hx=>by simpa using pU.lt x (by simpa using hx))) trodAll_mk0
  have e2:DataW.TrodAll enc prog W' 0 (fun b=>decide (b<W.heap.size)) true [22] [Value.slice ao ag.length cp] [d0] p0:=by simpa using e
  exact e2
 ·rfl
theorem Fh(os:Os)(sK:os.Started)(H:Type)(enc:TypeId×Value->H)(F:Stop.Interp):
  ReturnsInHanded {} Tryz.checked os 4 .any ((Rows.OpenSpec.upto Rows.runsSpec).pre6 enc prog Tryz.f4 Rows.runsUptoRow.domain false) (((Rows.OpenSpec.upto Rows.runsSpec).at F).post enc prog Tryz.f4 false true false false):=by
 refine returnsInHanded_of_cond (C:=Tryz.checked) (s:=Rows.OpenSpec.upto Rows.runsSpec) (k:=Rows.uptoSmall) rfl scr.cT sK (by kernel_rfl) func4
  (OpenSpec.witness (enc:=enc) (C:=Tryz.checked) (s:=Rows.OpenSpec.upto Rows.runsSpec) (k:=Rows.uptoSmall) rfl false ⟨#[],#[.slice none 0 0],[]⟩ 8 (by kernel_rfl) (by kernel_rfl) (by kernel_rfl)
   (x:=([.nil],[],[])) (by kernel_rfl) rfl (by kernel_rfl)) ?_
 intro W base args ds gs sJ oN hW _ hk _;exact Fg H enc W base args ds gs sJ oN hW hk
theorem Fi:Rows.RunsUptoSaid:=
 OpenClaim.holds_of_cond 4 Tryz.f4 rfl rfl rfl rfl rfl rfl rfl ⟨rfl,rfl,rfl,rfl,rfl⟩ rfl rfl rfl rfl rfl (by kernel_rfl) func4 (by kernel_rfl)
  (of_decide_eq_true (by kernel_rfl)) (by unfold Func.isWrapper;first|(rw[ay (by decide +kernel)];kernel_rfl)|(rw[ak (by decide +kernel)];exact⟨rfl,rfl⟩))
  (fun os sK H enc _ F=>Fh os sK H enc F)
end Go.Proofs.YtcnhfffgbamonaaGreat.runs
namespace Go.Proofs.YtcnhfffgbamonaaGreat
open Go.Proofs.Tryz
theorem runs_holds:Rows.RunsUptoSaid:=runs.Fi
end Go.Proofs.YtcnhfffgbamonaaGreat
