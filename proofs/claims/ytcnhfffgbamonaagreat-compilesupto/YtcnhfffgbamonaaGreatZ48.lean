import Derived.Test.YtcnhfffgbamonaaGreatZ47
set_option maxRecDepth 100000
set_option maxHeartbeats 6400000
namespace Go.Proofs.YtcnhfffgbamonaaGreat
open Go.Proofs.Tryz
open RowKit
theorem awV(ao:Option Addr)(n cp:Nat)(ag:List qb)(w:World)(hS:vq w (.slice ao n cp) ag)(nQ:∀o∈ag,o.ok)(hn:ag.length<=9223372036854775807):
 Calls prog 3 #[.slice ao n cp] w fun e w'=>e=.returned (.bool true)/\w.grownBy w' none:=by
 have HC:=ae (Wp ao n cp ag 1 1 w hS nQ hn);clear hS nQ;go_enter func3,ntmps3;go_wp2_with fail;refine HC.out.mono ?_;rintro e w2⟨rfl,hg⟩;have HG:=ae hg;clear hg HC;go_wp2;go_ret;exact⟨rfl,HG.out⟩
end Go.Proofs.YtcnhfffgbamonaaGreat
namespace Go.Proofs.YtcnhfffgbamonaaGreat.compiles
open Go.Proofs.Tryz
open ChangeShapes WideShapes ChangeAt RowKit
theorem Fg(H:Type)(enc:TypeId×Value->H)(W:World)(base:Nat)(args:Array Value)(ds gs:List (DataW H))(sJ:List MemPlace)
  (oN:∀(j:Nat) t v,Tryz.f3.params[j]?=some t->args[j]?=some v->Value.okWide prog W .any base t v)
  (hW:DataW.Whole enc prog Tryz.f3.params.toList Rows.compilesSpec.vars false W args.toList ds gs sJ) (hk:Rows.uptoSmall H (ds++gs)=true):
 Calls prog 3 args W fun e W'=>∃v,e=.returned v/\Rows.compilesSpec.post enc prog Tryz.f3 false true false false W args v W':=by
 have pU:=hW;obtain⟨p,q,yy,hV,rfl,Wa,Et⟩:=hW;have hA:DataW.TrodAll enc prog W 0 (fun _=>true) true Tryz.f3.params.toList args.toList ds p:=yy;rw[Tryz.params3] at hA oN;obtain⟨v0,Wb,d0,Wc,p0,q0,Wd,rfl,rfl,h0,r0⟩:=trodAll_cons hA;obtain⟨rfl,rfl,rfl⟩:=trodAll_nil r0;obtain rfl:args=#[v0]:=by cases args;simp_all
 obtain⟨rfl,rfl⟩:=trodVars_none hV;obtain⟨ao,cp,ag,rfl,hS,hn,hl⟩:=scr.Wq (okWide_slice underlying22 (oN 0 22 v0 rfl rfl)) h0;clear yy;simp only[List.append_nil] at pU hk;have hb:Rows.uptoBulkAll [d0]<=1048576:=of_decide_eq_true hk;simp only[Rows.uptoBulkAll] at hb;refine(awV ao ag.length cp ag W hS (fun o ho=>by obtain⟨a,b,c,d⟩:=hl o ho;exact⟨a,b,c,by omega⟩) (by omega)).mono fun e W' ⟨he,hg⟩=>?_;subst he;refine⟨_,rfl,_,_,_,[],p0,[],pU,?_,?_,?_,(xj hg).frame _,fun h=>by cases h⟩
 ·exact trodAll_cons_mk (shut_bool underlying4 _) trodAll_mk0
 ·have e:=trodAll_cons_mk (Below.trod scr.LP (by kernel_rfl) (of_decide_eq_true (by kernel_rfl)) h0 (xj hg) (fun x hx=>by simpa using pU.lt x (by simpa using hx))) trodAll_mk0
  have e2:DataW.TrodAll enc prog W' 0 (fun b=>decide (b<W.heap.size)) true [22] [Value.slice ao ag.length cp] [d0] p0:=by simpa using e
  exact e2
 ·rfl
theorem Fh(os:Os)(sK:os.Started)(H:Type)(enc:TypeId×Value->H)(F:Stop.Interp):
  ReturnsInHanded {} Tryz.checked os 3 .any ((Rows.OpenSpec.upto Rows.compilesSpec).pre6 enc prog Tryz.f3 Rows.compilesUptoRow.domain false) (((Rows.OpenSpec.upto Rows.compilesSpec).at F).post enc prog Tryz.f3 false true false false):=by
 refine returnsInHanded_of_cond (C:=Tryz.checked) (s:=Rows.OpenSpec.upto Rows.compilesSpec) (k:=Rows.uptoSmall) rfl scr.cT sK (by kernel_rfl) func3
  (OpenSpec.witness (enc:=enc) (C:=Tryz.checked) (s:=Rows.OpenSpec.upto Rows.compilesSpec) (k:=Rows.uptoSmall) rfl false ⟨#[],#[.slice none 0 0],[]⟩ 8 (by kernel_rfl) (by kernel_rfl) (by kernel_rfl)
   (x:=([.nil],[],[])) (by kernel_rfl) rfl (by kernel_rfl)) ?_
 intro W base args ds gs sJ oN hW _ hk _;exact Fg H enc W base args ds gs sJ oN hW hk
theorem Fi:Rows.CompilesUptoSaid:=
 OpenClaim.holds_of_cond 3 Tryz.f3 rfl rfl rfl rfl rfl rfl rfl ⟨rfl,rfl,rfl,rfl,rfl⟩ rfl rfl rfl rfl rfl (by kernel_rfl) func3 (by kernel_rfl)
  (of_decide_eq_true (by kernel_rfl)) (by unfold Func.isWrapper;first|(rw[ay (by decide +kernel)];kernel_rfl)|(rw[ak (by decide +kernel)];exact⟨rfl,rfl⟩))
  (fun os sK H enc _ F=>Fh os sK H enc F)
end Go.Proofs.YtcnhfffgbamonaaGreat.compiles
namespace Go.Proofs.YtcnhfffgbamonaaGreat
open Go.Proofs.Tryz
theorem compiles_holds:Rows.CompilesUptoSaid:=compiles.Fi
end Go.Proofs.YtcnhfffgbamonaaGreat
