import Derived.Test.YtcnhfffgbamonabGreatZ47
set_option maxRecDepth 100000
set_option maxHeartbeats 6400000
namespace Go.Proofs.YtcnhfffgbamonabGreat.all
open Go.Proofs.Tryz
open Go.ChangeShapes Go.WideShapes Go.ChangeAt Go.RowKit
theorem avT(H:Type)(enc:TypeId×Value->H)(W:World)(base:Nat)(args:Array Value)(ds gs:List (DataW H))(Vz:List MemPlace)
  (PA:∀(j:Nat) t v,Tryz.f5.params[j]?=some t->args[j]?=some v->Value.okWide prog W .any base t v)
  (hW:DataW.Whole enc prog Tryz.f5.params.toList Rows.allSpec.vars false W args.toList ds gs Vz) (hk:Rows.uptoSmall H (ds++gs)=true) :
  Calls prog 5 args W fun e W'=>∃v,e=.returned v/\Rows.allSpec.post enc prog Tryz.f5 false true false false W args v W':=by
 have FW:=hW;obtain⟨p,q,hA0,hV,rfl,hfz,Nv⟩:=hW;have hA:DataW.TrodAll enc prog W 0 (fun _=>true) true Tryz.f5.params.toList args.toList ds p:=hA0;rw[Tryz.params5] at hA PA;obtain⟨v0,vs0,d0,ds0,p0,q0,ayH,rfl,rfl,h0,r0⟩:=trodAll_cons hA;obtain⟨rfl,rfl,rfl⟩:=trodAll_nil r0;obtain rfl:args=#[v0]:=by cases args;simp_all
 obtain⟨rfl,rfl⟩:=trodVars_none hV;obtain⟨ao,cp,ag,rfl,hS,hn,hl⟩:=scr.avR (okWide_slice underlying24 (PA 0 24 v0 rfl rfl)) h0;clear hA0;simp only[List.append_nil] at FW hk;have hb:Rows.uptoBulkAll [d0]<=1048576:=of_decide_eq_true hk;simp only[Rows.uptoBulkAll] at hb;refine(avK ao ag.length cp ag W hS (fun o ho=>by obtain⟨a,b,c,d⟩:=hl o ho;exact⟨a,b,c,by omega⟩) (by omega)).mono fun e W' ⟨he,hg⟩=>?_;subst he;refine⟨_,rfl,_,_,_,[],p0,[],FW,?_,?_,?_,(GD hg).frame _,fun h=>by cases h⟩
 ·exact trodAll_cons_mk (shut_bool underlying4 _) trodAll_mk0
 ·have e:=trodAll_cons_mk (Below.trod scr.avM (by kernel_rfl) (of_decide_eq_true (by kernel_rfl)) h0 (GD hg) (fun x hx=>by simpa using FW.lt x (by simpa using hx))) trodAll_mk0
  have e2:DataW.TrodAll enc prog W' 0 (fun b=>decide (b<W.heap.size)) true [24] [Value.slice ao ag.length cp] [d0] p0:=by simpa using e
  exact e2
 ·rfl
theorem avU(os:Os)(VA:os.Started)(H:Type)(enc:TypeId×Value->H)(F:Stop.Interp) :
  ReturnsInHanded {} Tryz.checked os 5 .any ((Rows.OpenSpec.upto Rows.allSpec).pre6 enc prog Tryz.f5 Rows.allUptoRow.domain false) (((Rows.OpenSpec.upto Rows.allSpec).at F).post enc prog Tryz.f5 false true false false):=by
 refine returnsInHanded_of_cond (C:=Tryz.checked) (s:=Rows.OpenSpec.upto Rows.allSpec) (k:=Rows.uptoSmall) rfl scr.dg VA (by kernel_rfl) func5
  (OpenSpec.witness (enc:=enc) (C:=Tryz.checked) (s:=Rows.OpenSpec.upto Rows.allSpec) (k:=Rows.uptoSmall) rfl false ⟨#[],#[.slice none 0 0],[]⟩ 8 (by kernel_rfl) (by kernel_rfl) (by kernel_rfl)
   (x:=([.nil],[],[])) (by kernel_rfl) rfl (by kernel_rfl)) ?_
 intro W base args ds gs Vz PA hW _ hk _;exact avT H enc W base args ds gs Vz PA hW hk
theorem avV:Rows.AllUptoSaid:=
 OpenClaim.holds_of_cond 5 Tryz.f5 rfl rfl rfl rfl rfl rfl rfl ⟨rfl,rfl,rfl,rfl,rfl⟩ rfl rfl rfl rfl rfl (by kernel_rfl) func5 (by kernel_rfl)
  (of_decide_eq_true (by kernel_rfl)) (by unfold Func.isWrapper;first|(rw[ay (by decide +kernel)];kernel_rfl)|(rw[ak (by decide +kernel)];exact⟨rfl,rfl⟩))
  (fun os VA H enc _ F=>avU os VA H enc F)
end Go.Proofs.YtcnhfffgbamonabGreat.all
namespace Go.Proofs.YtcnhfffgbamonabGreat
open Go.Proofs.Tryz
theorem all_holds:Rows.AllUptoSaid:=all.avV
#print axioms all_holds
end Go.Proofs.YtcnhfffgbamonabGreat
