import Derived.Test.YtcnhfffgbamonabGreatZ51
import Derived.Test.YtcnhfffgbamonabGreatZ35
set_option maxRecDepth 100000
set_option maxHeartbeats 6400000
namespace Go.Proofs.YtcnhfffgbamonabGreat
open Go.Proofs.Tryz
open Go.RowKit
theorem asY(b Dp q gb:Nat)(md:M.Md)(a9:Option Addr)(n9 c9:Nat)(gs:List (Nat×Nat))(a:Option Addr)(n c:Nat)(ins:List (List Int))(wz w:World)(gz:wz.grownBy w none)
  (hc:w.cell? ⟨b,9,none⟩=some (.slice a9 n9 c9)) (hE:vQ w Dp (.slice a9 n9 c9) gs) (hg:gs.length<=1000000000) (hP:Pl w q md) (hG:lB w gb (R.dp md)) (h1:O.iN md) (tu:0<md.au.length)
  (hI:tG wz w (.slice a n c) ins) (hl:∀l∈ins,l.length<=9223372036854775807) (hn:ins.length<=9223372036854775807) (hh:D.jM md ins=false) :
  Calls prog 44 #[.pointer (some ⟨b,0,none⟩),.agg #[.pointer (some ⟨q,0,none⟩),.pointer (some ⟨gb,0,none⟩)],.slice a n c] w fun e w'=>e=.returned (.bool true)/\w.grownBy w' none:=by
 have g0:=aQ w (.cells #[.pointer (some ⟨q,0,none⟩),.pointer (some ⟨gb,0,none⟩)] 99) none;have iD:=aj.bB w 99 #[.pointer (some ⟨q,0,none⟩),.pointer (some ⟨gb,0,none⟩)];have jk:=ae (Zw q md a n c ins _ (hP.Z g0) ((hI.Z g0).lsl (aC gz g0)) hl hn);have rW:=ae (fun w1 (aH:w.grownBy w1 none)=>aep gb md a n c ins wz w1 (aC gz aH) (hG.Z aH) h1 (hI.Z aH) hl hn tu);have iW:=ae (fun w1 (aH:w.grownBy w1 none)=>R8 b Dp a9 n9 c9 gs w1 (aG aH hc) (hE.Z aH) hg);have Oc:∀(W:World),(binOp .eql 38 (.slice none 0 0) (.slice none 0 0)).run prog W=.ok (.bool true) W:=fun W=>Lib.run_eql_slice_nil W 38 32 none 0 0 0 0 underlying38;have G0:=ae g0;have lR:=ae iD;have Hh:=ae hh;have p0:(w.alloc (.cells #[.pointer (some ⟨q,0,none⟩),.pointer (some ⟨gb,0,none⟩)] 99)).cell? ⟨w.heap.size,0,none⟩=some (.pointer (some ⟨q,0,none⟩)):=iD.cell 0;clear gz g0 iD hP hI hG h1 hl hE hc hh;go_enter func44,ntmps44;go_wp2_with fail;refine jk.out.mono ?_;rintro e w1⟨aH,hc⟩;have G1:=ae (aC G0.out aH);have p1:w1.cell? ⟨w.heap.size,1,none⟩=some (.pointer (some ⟨gb,0,none⟩)):=aG aH (lR.out.cell 1);clear jk aH lR G0 p0;rcases hc with⟨-,rfl⟩|⟨ht,-⟩
 ·go_wp2_with fail
  refine(iW.out w1 G1.out).mono ?_;rintro e w2⟨rfl,rfl⟩;clear iW;go_wp2_with fail;refine(rW.out _ G1.out).mono ?_;rintro e w3⟨aU,h3⟩;have G3:=ae (aC G1.out aU);clear rW aU p1;rcases h3 with⟨-,rfl⟩|⟨ht,-⟩
  ·go_wp2
   go_ret;exact⟨rfl,G3.out⟩
  ·rw[Hh.out] at ht;exact aN ht (by decide)
 ·rw[Hh.out] at ht;exact aN ht (by decide)
theorem lD{w:World}{base n g t:Nat}{v:Value}{xs:List Value}{cs:Array Value}{T:TypeId}(h:w.ownsRow base T t v n xs){T':TypeId}(hB:aj w g T' cs)(eF:T≠T'):v.ownBlock≠some g:=by
 intro e;rcases h.2 with h' | ⟨g',cap,dV,rfl,hb,hg,hr⟩
 ·rcases h' with⟨rfl,-⟩;cases e
 ·have e1:some g'=some g:=e
  injection e1 with e1;subst e1;unfold aj at hB;rw[hB] at hg;injection hg with hg;injection hg with _ h2;exact eF h2.symm
structure Kp(w wr:World)(b base:Nat)(vp v1 v2 va vn ve vr vt vm vo u1 u2:Value)(n:Nat)(xs ys:List Value):Prop where
 L:LW wr b vp u1 u2 va vn ve vr vt vm vo
 k1:wr.ownsRow base 32 1 u1 n xs
 k2:wr.ownsRow base 32 1 u2 n ys
 b1:u1.ownBlock≠some b
 b2:u2.ownBlock≠some b
 sY:∀g,u1.ownBlock=some g->u2.ownBlock≠some g
 o1:∀g,u1.ownBlock=some g->v1.ownBlock=some g\/w.heap.size<=g
 o2:∀g,u2.ownBlock=some g->v2.ownBlock=some g\/w.heap.size<=g
 F:Fr (fun k=>k=b\/v1.ownBlock=some k\/v2.ownBlock=some k) w wr
theorem Kp.grow{w wr mx:World}{b base n:Nat}{vp v1 v2 va vn ve vr vt vm vo u1 u2:Value}{xs ys:List Value}(h:Kp w wr b base vp v1 v2 va vn ve vr vt vm vo u1 u2 n xs ys)(hg:wr.grownBy mx none):Kp w mx b base vp v1 v2 va vn ve vr vt vm vo u1 u2 n xs ys:=
 ⟨h.L.kept hg (by simp),iJ h.k1 hg (by simp),iJ h.k2 hg (by simp),h.b1,h.b2,h.sY,h.o1,h.o2,h.F.iI hg (fun g e=>by cases e)⟩
theorem Kp.O7{w wr mx:World}{b base n G:Nat}{vp v1 v2 va vn ve vr vt vm vo u1 u2:Value}{xs ys:List Value}(h:Kp w wr b base vp v1 v2 va vn ve vr vt vm vo u1 u2 n xs ys)(hg:wr.grownBy mx (some G))(hb:G≠b)(h1:u1.ownBlock≠some G)(h2:u2.ownBlock≠some G)(hG:w.heap.size<=G):Kp w mx b base vp v1 v2 va vn ve vr vt vm vo u1 u2 n xs ys:=
 ⟨h.L.kept hg (by intro e;injection e with e;exact hb e.symm),iJ h.k1 hg (fun g e e'=>by injection e' with e';subst e';exact h1 e),iJ h.k2 hg (fun g e e'=>by injection e' with e';subst e';exact h2 e),h.b1,h.b2,h.sY,h.o1,h.o2,h.F.iI hg (fun g e=>by injection e with e;subst e;exact .inl hG)⟩
theorem Kp.Bi{w wr:World}{b base n:Nat}{vp v1 v2 va vn ve vr vt vm vo u1 u2:Value}{xs ys:List Value}(h:Kp w wr b base vp v1 v2 va vn ve vr vt vm vo u1 u2 n xs ys)(yK:base<=w.heap.size)(hn:n<=1000000000){ao:Option Addr}{c:Nat}{l:List Int}(hS:Sl wr (.slice ao l.length c) l)(hl:l.length<=1000000000) :
  Calls prog 70 #[.pointer (some ⟨b,0,none⟩),.slice ao l.length c] wr fun e w'=>e=.returned (.tuple #[])/\∃g1 c1 g2 c2,
   Kp w w' b base vp v1 v2 va vn ve vr vt vm vo (.slice (some ⟨g1,0,none⟩) (n+1) c1) (.slice (some ⟨g2,0,none⟩) (n+1) c2) (n+1) (xs++[.slice ao l.length c]) (ys++[dg wr.heap.size l]) /\
   aj w' wr.heap.size 3 (l.map (Value.int .i64)).toArray/\Fr (fun k=>k=b\/u1.ownBlock=some k\/u2.ownBlock=some k) wr w'/\(u1.ownBlock=some g1\/wr.heap.size<g1)/\(u2.ownBlock=some g2\/wr.heap.size<g2):=
 (anc b base vp u1 u2 va vn ve vr vt vm vo n n xs ys ao l.length c l wr h.L h.k1 h.k2 h.b1 h.b2 h.sY (jK yK h.F.size) hS hl hn hn).mono fun _ w' ⟨he,g1,c1,g2,c2,hL,xh,rC,hB,AP,JZ,yJ,BU,xj,hF⟩=>
  ⟨he,g1,c1,g2,c2,⟨hL,xh,rC,fun e=>yJ (by injection e),fun e=>BU (by injection e),fun g e e'=>xj (by have e1:some g1=some g:=e;have e2:some g2=some g:=e';rw[<-e2] at e1;injection e1),fun g e=>by
    have e1:some g1=some g:=e;injection e1 with e1;subst e1;rcases AP with h' | h'
    ·exact h.o1 g1 h'
    ·exact .inr (by have:=h.F.size;omega),fun g e=>by
    have e1:some g2=some g:=e;injection e1 with e1;subst e1;rcases JZ with h' | h'
    ·exact h.o2 g2 h'
    ·exact .inr (by have:=h.F.size;omega),by
   refine⟨hF.os.trans h.F.os,hF.tape.trans h.F.tape,hF.output.trans h.F.output,jK h.F.size hF.size,fun k hk hn=>?_⟩;refine(hF.block k (qB hk h.F.size) (fun hs=>hn ?_)).trans (h.F.block k hk hn);rcases hs with hs|hs|hs
   ·exact .inl hs
   ·rcases h.o1 k hs with h' | h'
    ·exact .inr (.inl h')
    ·omega
   ·rcases h.o2 k hs with h' | h'
    ·exact .inr (.inr h')
    ·omega⟩,hB,hF,AP,JZ⟩
theorem lV.fr{wz w w':World}{S:Nat->Prop}{v:Value}{l:List Int}(h:lV wz w v l)(hF:Fr S w w')(hS:∀g,S g->∀cs,¬aj w g 3 cs):lV wz w' v l:=by
 rcases h with h|h|h
 ·exact .inl h
 ·refine .inr (.inl (hF.jO h fun g hg hs=>?_))
  rcases h.2 with h' | ⟨g',cap,dV,rfl,hb,fQ,hr⟩
  ·rcases h' with⟨rfl,-⟩;cases hg
  ·have e1:some g'=some g:=hg
   injection e1 with e1;subst e1;exact hS g' hs dV fQ
 ·obtain⟨g,k,c,cs,e,hB,hc⟩:=h
  exact .inr (.inr ⟨g,k,c,cs,e,hF.gF hB (fun hs=>hS g hs cs hB),hc⟩)
theorem sw.fr{wz w w':World}{S:Nat->Prop}{vs:List Value}{ls:List (List Int)}{k:Nat}(h:sw wz w vs ls k)(hF:Fr S w w')(hS:∀g,S g->∀cs,¬aj w g 3 cs):sw wz w' vs ls k:=
 ⟨h.lv,h.ll,fun j u l hu hl=>by obtain⟨a,cp,e,hs⟩:=h.bN j u l hu hl;exact⟨a,cp,e,hs.fr hF hS⟩⟩
theorem Kp.zC{w wr:World}{b base n:Nat}{vp v1 v2 va vn ve vr vt vm vo u1 u2:Value}{xs ys:List Value}(h:Kp w wr b base vp v1 v2 va vn ve vr vt vm vo u1 u2 n xs ys):∀g,(g=b\/u1.ownBlock=some g\/u2.ownBlock=some g)->∀cs,¬aj wr g 3 cs:=by
 intro g hg cs hB;rcases hg with rfl|hg|hg
 ·exact aN (uR h.L hB) (by decide)
 ·exact lD h.k1 hB (by decide) hg
 ·exact lD h.k2 hB (by decide) hg
def uT(gs:List Nat)(ls:List (List Int))(k:Nat):List Value:=List.replicate k zs++(List.zipWith dg gs ls).drop k
theorem asZ(gs:List Nat)(ls:List (List Int)):uT gs ls 0=List.zipWith dg gs ls:=by unfold uT;simp
theorem aeL{gs:List Nat}{ls:List (List Int)}{k g:Nat}{l:List Int}(hg:gs[k]?=some g)(hl:ls[k]?=some l):(uT gs ls k)[k]?=some (dg g l):=by
 unfold uT;rw[oL (by simp),vF,Nat.sub_self,List.getElem?_drop,Nat.add_zero,aa7,hg,hl]
theorem as1{gs:List Nat}{ls:List (List Int)}{k g:Nat}{l:List Int}(hg:gs[k]?=some g)(hl:ls[k]?=some l):(uT gs ls k).set k zs=uT gs ls (k+1):=by
 have hk:k<(List.zipWith dg gs ls).length:=by
  have h1:=M.bP hg;have h2:=M.bP hl;rw[aa8];omega
 unfold uT;rw[List.set_append_right _ _ (by simp),vF,Nat.sub_self,List.drop_eq_getElem_cons hk,List.set_cons_zero,List.replicate_succ',j4]
 rfl
theorem as3{gs:List Nat}{ls:List (List Int)}(h:gs.length=ls.length):uT gs ls ls.length=List.replicate ls.length zs:=by
 unfold uT;rw[List.drop_of_length_le (by simp[h]),List.append_nil]
theorem as4{gs:List Nat}{ls:List (List Int)}{k g:Nat}{l:List Int}(hg:gs[k]?=some g)(hl:ls[k]?=some l):(List.zipWith dg gs ls).take (k+1)=(List.zipWith dg gs ls).take k++[dg g l]:=by
 refine H.kj ?_;rw[aa7,hg,hl]
theorem Tryz.as5:(prog.info? 38).map (fun i=>(i.zero,i.size,i.bytes))=some (some (.slice none 0 0),1,24):=by kernel_rfl
theorem qw{w:World}{base base' n n' t t':Nat}{v v':Value}{T T':TypeId}{xs xs':List Value}(h:w.ownsRow base T t v n xs)(h':w.ownsRow base' T' t' v' n' xs')(eF:T≠T'):∀g,v.ownBlock=some g->v'.ownBlock≠some g:=fun g e=>by
 rcases h.2 with h0|⟨g',cap,dV,rfl,hb,hg,hr⟩
 ·rcases h0 with⟨rfl,-⟩;cases e
 ·have e1:some g'=some g:=e
  injection e1 with e1;subst e1;exact lD h' (show aj w g' T dV from hg) (Ne.symm eF)
structure Rdn(w w':World)(b base:Nat)(vp v1 v2 va vn ve vr vt vm vo u1 u2:Value)(gs:List (Nat×Nat))(n1 m:Nat)(xs ys:List Value)(rs:List (List Int))(g9 c9 G:Nat)(kF hs:List Nat):Prop where
 L:LW w' b vp u1 u2 va vn ve vr vt vm (.slice (some ⟨g9,0,none⟩) (gs.length+1) c9)
 k1:w'.ownsRow base 32 1 u1 (n1+m) (xs++List.zipWith dg kF rs)
 k2:w'.ownsRow base 32 1 u2 (n1+m) (ys++List.zipWith dg hs rs)
 b1:u1.ownBlock≠some b
 b2:u2.ownBlock≠some b
 sY:∀g,u1.ownBlock=some g->u2.ownBlock≠some g
 o1:∀g,u1.ownBlock=some g->v1.ownBlock=some g\/w.heap.size<=g
 o2:∀g,u2.ownBlock=some g->v2.ownBlock=some g\/w.heap.size<=g
 l1:kF.length=m
 l2:hs.length=m
 so:(kF++hs).Pairwise (· < ·)
 ab:∀g∈kF++hs,w.heap.size<=g
 f1:∀(j:Nat) g l,kF[j]?=some g->rs[j]?=some l->aj w' g 3 (l.map (Value.int .i64)).toArray
 f2:∀(j:Nat) g l,hs[j]?=some g->rs[j]?=some l->aj w' g 3 (l.map (Value.int .i64)).toArray
 E:vQ w' base (.slice (some ⟨g9,0,none⟩) (gs.length+1) c9) (gs++[(G,m)])
 bB:w.heap.size<=G/\u1.ownBlock≠some G/\u2.ownBlock≠some G
 o9:(vo.ownBlock=some g9\/w.heap.size<=g9)/\g9≠b
 F:Fr (fun k=>k=b\/v1.ownBlock=some k\/v2.ownBlock=some k\/vo.ownBlock=some k) w w'
theorem as7(b base q gb:Nat)(md:M.Md)(vp v1 v2 va vn ve vr vt vm:Value)(a9:Option Addr)(n9 c9:Nat)(gs:List (Nat×Nat))(n1:Nat)(xs ys:List Value)(a:Option Addr)(n c:Nat)(ins:List (List Int))(wz w:World)(gz:wz.grownBy w none)
  (hK:Kp w w b base vp v1 v2 va vn ve vr vt vm (.slice a9 n9 c9) v1 v2 n1 xs ys) (yK:base<=w.heap.size) (hz:∀g,(g=b\/v1.ownBlock=some g\/v2.ownBlock=some g)->wz.heap.size<=g) (iq:n1<=900000000)
  (hE:vQ w base (.slice a9 n9 c9) gs) (hg:gs.length<=900000000) (hob:∀g,(Value.slice a9 n9 c9).ownBlock=some g->g≠b/\v1.ownBlock≠some g/\v2.ownBlock≠some g) (hEb:∀p∈gs,p.1≠b/\v1.ownBlock≠some p.1/\v2.ownBlock≠some p.1) (hP:Pl w q md) (hG:lB w gb (R.dp md)) (h1:O.iN md) (tu:0<md.au.length)
  (hI:tG wz w (.slice a n c) ins) (hl:∀l∈ins,l.length<=9223372036854775807) (hn:ins.length<=9223372036854775807) (hh:D.jM md ins=true) :
  Calls prog 44 #[.pointer (some ⟨b,0,none⟩),.agg #[.pointer (some ⟨q,0,none⟩),.pointer (some ⟨gb,0,none⟩)],.slice a n c] w fun e w'=>e=.returned (.bool true)/\∃u1 u2 g9 Ut G kF hs,Rdn w w' b base vp v1 v2 va vn ve vr vt vm (.slice a9 n9 c9) u1 u2 gs n1 md.aJ.length xs ys (D.run md ins) g9 Ut G kF hs:=by
 obtain⟨i0,nJ,cQ,cR,cZ⟩:=info_parts Tryz.as5;have g0:=aQ w (.cells #[.pointer (some ⟨q,0,none⟩),.pointer (some ⟨gb,0,none⟩)] 99) none;have iD:=aj.bB w 99 #[.pointer (some ⟨q,0,none⟩),.pointer (some ⟨gb,0,none⟩)];have jk:=ae (Zw q md a n c ins _ (hP.Z g0) ((hI.Z g0).lsl (aC gz g0)) hl hn);have rW:=ae (fun w1 (aH:w.grownBy w1 none)=>aep gb md a n c ins wz w1 (aC gz aH) (hG.Z aH) h1 (hI.Z aH) hl hn tu);have iW:=ae (fun w1 (aH:w.grownBy w1 none)=>R8 b base a9 n9 c9 gs w1 (aG aH (hK.L.cell 9)) (hE.Z aH) (by omega));have G0:=ae g0;have lR:=ae iD;have Hh:=ae hh;have HK:=ae hK;have HE:=ae hE;have Zh:=h1.dQ.nu;have Oh:=ae (Zv h1 hh);have dh:=hK.L.lt;have O8:Hid (∀g,(v1.ownBlock=some g\/v2.ownBlock=some g)->g<w.heap.size):=fun g hg=>hg.elim (fun e=>(jd hK.k1 g e).2) (fun e=>(jd hK.k2 g e).2);have p0:(w.alloc (.cells #[.pointer (some ⟨q,0,none⟩),.pointer (some ⟨gb,0,none⟩)] 99)).cell? ⟨w.heap.size,0,none⟩=some (.pointer (some ⟨q,0,none⟩)):=iD.cell 0;have yN:(w.alloc (.cells #[.pointer (some ⟨q,0,none⟩),.pointer (some ⟨gb,0,none⟩)] 99)).heap.size=w.heap.size+1:=by simp
 have mn:=ae (show(D.run md ins).length=md.aJ.length by unfold D.run;simp);have Hz:=ae (And.intro gz hz);have D6:=ae (And.intro hob hEb);clear hob hEb;clear g0 iD hP hI hG h1 hl hE hh hK gz hz;go_enter func44,ntmps44;go_wp2_with fail;refine jk.out.mono ?_;rintro e w1⟨aH,hc⟩;have G1:=ae (aC G0.out aH);have p1:w1.cell? ⟨w.heap.size,1,none⟩=some (.pointer (some ⟨gb,0,none⟩)):=aG aH (lR.out.cell 1);clear jk aH lR G0 p0;rcases hc with⟨ht,-⟩|⟨-,G,kF,rfl,hF⟩
 ·rw[Hh.out] at ht;exact aN ht (by decide)
 ·rw[yN] at hF
  have HF:=ae hF;clear hF yN;go_wp2_with fail;refine(iW.out w1 G1.out).mono ?_;rintro e w2⟨rfl,rfl⟩;clear iW;go_wp2_with fail;refine(rW.out _ G1.out).mono ?_;rintro e w3⟨aU,h3⟩;rcases h3 with⟨ht,-⟩|⟨-,ao,co,vs,rfl,FY,JH⟩
  ·rw[Hh.out] at ht;exact aN ht (by decide)
  ·have G3:=ae (aC G1.out aU)
   have AM:=G1.out.size;have Jn:=aU.size;have LF:=HF.out.out.lt;have Tb:=HF.out.base;have xV:=ae (HK.out.grow G3.out);have fW:=ae (HF.out.out.kept aU (by simp));have xM:=ae (fun(j:Nat) g l hj hl=>(HF.out.gF j g l hj hl).kept aU (by simp));have wK:=ae FY;have te:=ae JH;have lq:=ae HF.out.len;have CB:Hid (kF.Pairwise (· < ·)/\∀g∈kF,w.heap.size<=g/\g<w3.heap.size):=⟨HF.out.AH,fun g hg=>by
    have h1:=HF.out.aS g hg;obtain⟨i,hi⟩:=List.mem_iff_getElem?.1 hg;obtain⟨l,hl⟩:∃l,(D.run md ins)[i]?=some l:=⟨_,aT (by rw[<-HF.out.len];exact M.bP hi)⟩;have:=(HF.out.gF i g l hi hl).lt
    constructor<;>omega⟩
   clear rW aU p1 FY JH HK HF;have Bj:∀g,(v1.ownBlock=some g\/v2.ownBlock=some g)->g<w.heap.size:=O8.out;have EK:Hid (v1.ownBlock≠some G/\v2.ownBlock≠some G/\∀g,(Value.slice ao md.aJ.length co).ownBlock=some g->v1.ownBlock≠some g/\v2.ownBlock≠some g/\g≠G):=by
    refine⟨fun e=>by have:=Bj G (.inl e);omega,fun e=>by have:=Bj G (.inr e);omega,fun g hg=>?_⟩;have hl:=jd wK.out g hg;exact⟨fun e=>by have:=Bj g (.inl e);omega,fun e=>by have:=Bj g (.inr e);omega,by omega⟩
   clear Bj;go_wp2;generalize hrs:D.run md ins=rs at *;have HRs:=ae hrs;clear hrs;go_loopw[12] (fun i wr=>∃(k:Nat) (u1 u2:Value) (hs:List Nat),Hid (k<=md.aJ.length)/\i=.int .i64 k/\Hid (hs.length=k)/\Hid ((kF++hs).Pairwise (· < ·)/\∀g∈kF++hs,w.heap.size<=g/\g<wr.heap.size)/\Hid (Kp w wr b base vp v1 v2 va vn ve vr vt vm (.slice a9 n9 c9) u1 u2 (n1+k) (xs++(List.zipWith dg kF rs).take k) (ys++List.zipWith dg hs (rs.take k)))/\Hid (aj wr G 32 (uT kF rs k).toArray)/\Hid (∀(j:Nat) g l,kF[j]?=some g->rs[j]?=some l->aj wr g 3 (l.map (Value.int .i64)).toArray)/\Hid (∀(j:Nat) g l,hs[j]?=some g->rs[j]?=some l->aj wr g 3 (l.map (Value.int .i64)).toArray)/\Hid (wr.ownsRow w2.heap.size 32 1 (.slice ao md.aJ.length co) md.aJ.length vs)/\Hid (sw wz wr vs rs md.aJ.length)/\Hid (u1.ownBlock≠some G/\u2.ownBlock≠some G/\∀g,(Value.slice ao md.aJ.length co).ownBlock=some g->u1.ownBlock≠some g/\u2.ownBlock≠some g/\g≠G)) (fun i _=>md.aJ.length-(intOf i).toNat)
   case atStart=>exact⟨0,v1,v2,[],bK _,rfl,rfl,(by unfold Hid;simpa using CB.out),(by unfold Hid;simpa using xV.out),(by unfold Hid;rw[asZ];exact fW.out),xM.out,(fun j g l h=>aN h (by simp)),wK.out,te.out,EK.out⟩
   case round=>
    clear xV fW xM wK te EK CB;obtain⟨k,u1,u2,hs,Hk,rfl,Gm,KP,HK,bH,zD,De,wK,te,EK⟩:=hrel;have hk:=Hk.out;by_cases aK:k<md.aJ.length
    ·obtain⟨l,hx⟩:∃l,rs[k]?=some l:=⟨_,aT (by rw[mn.out];exact aK)⟩
     obtain⟨g,aF⟩:∃g,kF[k]?=some g:=⟨_,aT (by rw[lq.out,mn.out];exact aK)⟩;have dG:wr.cell? ⟨G,k,none⟩=some (.slice (some ⟨g,0,none⟩) l.length l.length):=by rw[bH.out.cell k,nH,aeL aF hx];rfl
     obtain⟨gB,ea,-,-,kS⟩:=nZ wK.out (by omega);subst ea;obtain⟨v,hv⟩:∃v,vs[k]?=some v:=⟨_,aT (by rw[te.out.lv];exact aK)⟩;obtain⟨aL,cL,rfl,hW⟩:=te.out.bN k v l hv hx;have dB:wr.cell? ⟨gB,k,none⟩=some (.slice aL l.length cL):=by rw[kS k (by omega),hv]
     have gzr:wz.grownBy wr none:=Fr.gr Hz.out.1 HK.out.F Hz.out.2;have qi:=Oh.out l (bV hx);have KQ:Sl wr (.slice (some ⟨g,0,none⟩) l.length l.length) l:=(aZ.tM (base:=0) (bK _) rfl (by unfold maxLen;omega) (zD.out k g l aF hx)).sl;have HC:=ae (fun nd=>Jp (some ⟨g,0,none⟩) aL l.length l.length l.length cL l l (wr.drewN nd) (KQ.Z (bF wr nd none)) ((hW.sl gzr).Z (bF wr nd none)) (by omega) (by omega));rw[show decide (l=l)=true from by simp] at HC;have Hx:=ae hx;have jH:=ae aF;clear hx aF kS hv hW gzr KQ;go_wp2_with fail;go_quiet (exact Calls.quiet_of (HC.out _));have gq:=bF wr nq none;have OT:=gq.size;have dG1:=aG gq dG;have HKa:=ae (HK.out.grow gq);have qS:=ae (bH.out.kept gq (by simp));have KR:=ae (fun(j:Nat) g l hj hl=>(zD.out j g l hj hl).kept gq (by simp));have Hha:=ae (fun(j:Nat) g l hj hl=>(De.out j g l hj hl).kept gq (by simp));have aeV:=ae (iJ wK.out gq (by simp));have aeW:=ae (te.out.Z gq);clear dG dB HC gq HK bH zD De wK te;generalize wr.drewN nq=wa at *;go_wp2_with fail;go_quiet (fail);have gq:=bF wa nq none;have hsb:=gq.size;have dG:=aG gq dG1;have HK:=ae (HKa.out.grow gq);have bH:=ae (qS.out.kept gq (by simp));have zD:=ae (fun(j:Nat) g l hj hl=>(KR.out j g l hj hl).kept gq (by simp));have De:=ae (fun(j:Nat) g l hj hl=>(Hha.out j g l hj hl).kept gq (by simp));have wK:=ae (iJ aeV.out gq (by simp));have te:=ae (aeW.out.Z gq);clear dG1 gq HKa qS KR Hha aeV aeW;generalize wa.drewN nq=wb at *;have KQ:Sl wb (.slice (some ⟨g,0,none⟩) l.length l.length) l:=(aZ.tM (base:=0) (bK _) rfl (by unfold maxLen;omega) (zD.out k g l jH.out Hx.out)).sl;have HC:=ae (HK.out.Bi yK (by omega) KQ (by omega));clear KQ;go_wp2_with fail;refine HC.out.mono ?_;rintro e wc⟨rfl,g1,c1,g2,c2,wL,yb,pR,o1,o2⟩;have zC:=HK.out.zC;obtain⟨A1,A2,A3⟩:=EK.out;have as9:=bH.out.lt
     have hGw:w.heap.size<=G:=by omega
     have EL:=pR.gF bH.out (fun h=>by
      rcases h with h|h|h
      ·omega
      ·exact A1 h
      ·exact A2 h)
     have jX:=bD wc G k (.slice none 0 0);have fG:=EL.free k;have dGc:wc.cell? ⟨G,k,none⟩=some (.slice (some ⟨g,0,none⟩) l.length l.length):=by rw[EL.cell k,nH,aeL jH.out Hx.out];rfl
     have Uu:g1≠G:=fun e=>by
      subst e;rcases o1 with h|h
      ·exact A1 h
      ·omega
     have Uv:g2≠G:=fun e=>by
      subst e;rcases o2 with h|h
      ·exact A2 h
      ·omega
     have zE:∀(x:Nat) (cs:Array Value),aj wc x 3 cs->aj (wc.setCell ⟨G,k,none⟩ (.slice none 0 0)) x 3 cs:=fun x cs h=>h.kept jX (by intro e;injection e with e;subst e;exact aN (uR EL h) (by decide));have Uw:=ae (wL.O7 jX (by omega) (fun e=>Uu (by have e1:some g1=some G:=e;injection e1)) (fun e=>Uv (by have e1:some g2=some G:=e;injection e1)) hGw);rw[j4,j4,show(Value.slice (some ⟨g,0,none⟩) l.length l.length)=dg g l from rfl,<-as4 jH.out Hx.out] at Uw;have xR:Hid (List.zipWith dg (hs++[wb.heap.size]) (rs.take (k+1))=List.zipWith dg hs (rs.take k)++[dg wb.heap.size l]):=by
      unfold Hid;rw[H.kj Hx.out,R4 (by rw[Gm.out,Ae];have:=M.bP Hx.out;omega)]
      rfl
     rw[<-xR.out] at Uw;have j6:Hid (aj (wc.setCell ⟨G,k,none⟩ (.slice none 0 0)) G 32 (uT kF rs (k+1)).toArray):=by
      have e:=EL.set k (.slice none 0 0);rw[KN,show((uT kF rs k).set k (.slice none 0 0))=uT kF rs (k+1) from as1 jH.out Hx.out] at e;exact e
     have HFd:=ae (fun(j:Nat) g l hj hl=>zE _ _ (pR.gF (zD.out j g l hj hl) (fun h=>zC g h _ (zD.out j g l hj hl))));have Hhd:Hid (∀(j:Nat) g l,(hs++[wb.heap.size])[j]?=some g->rs[j]?=some l->aj (wc.setCell ⟨G,k,none⟩ (.slice none 0 0)) g 3 (l.map (Value.int .i64)).toArray):=fun j g l' hj ij=>by
      rcases cF j hs.length with h|h
      ·rw[rn h] at hj
       exact zE _ _ (pR.gF (De.out j g l' hj ij) (fun h=>zC g h _ (De.out j g l' hj ij)))
      ·have ej:j=k:=by have:=M.bP hj;simp[Gm.out] at this;have:=Gm.out;omega
       subst ej;rw[oL h,Gm.out,Nat.sub_self] at hj;simp at hj;subst hj;rw[Hx.out] at ij;injection ij with ij;subst ij;exact zE _ _ yb
     have atc:=ae (iJ (pR.jO wK.out (fun x hx h=>by
      rcases h with h|h|h
      ·have:=jd wK.out x hx;omega
      ·exact(A3 x hx).1 h
      ·exact(A3 x hx).2.1 h)) jX (fun x hx e=>by injection e with e;exact(A3 x hx).2.2 e))
     have atd:=ae ((te.out.fr pR zC).fr (Fr.uw jX) (fun x hx cs h=>by injection hx with hx;subst hx;exact aN (uR EL h) (by decide)));have ate:Hid ((Value.slice (some ⟨g1,0,none⟩) (n1+k+1) c1).ownBlock≠some G/\(Value.slice (some ⟨g2,0,none⟩) (n1+k+1) c2).ownBlock≠some G/\∀g,(Value.slice (some ⟨gB,0,none⟩) md.aJ.length co).ownBlock=some g->(Value.slice (some ⟨g1,0,none⟩) (n1+k+1) c1).ownBlock≠some g/\(Value.slice (some ⟨g2,0,none⟩) (n1+k+1) c2).ownBlock≠some g/\g≠G):=by
      refine⟨fun e=>Uu (by have e1:some g1=some G:=e;injection e1),fun e=>Uv (by have e1:some g2=some G:=e;injection e1),fun x hx=>?_⟩;have uu:=(jd wK.out x hx).2;refine⟨fun e=>?_,fun e=>?_,(A3 x hx).2.2⟩
      ·have e1:some g1=some x:=e
       injection e1 with e1;subst e1;rcases o1 with h|h
       ·exact(A3 g1 hx).1 h
       ·omega
      ·have e1:some g2=some x:=e
       injection e1 with e1;subst e1;rcases o2 with h|h
       ·exact(A3 g2 hx).2.1 h
       ·omega
     have atf:Hid ((kF++(hs++[wb.heap.size])).Pairwise (· < ·)/\∀g∈kF++(hs++[wb.heap.size]),w.heap.size<=g/\g<(wc.setCell ⟨G,k,none⟩ (.slice none 0 0)).heap.size):=by
      have dh:=yb.lt;have NX:=pR.size;have qG:=HK.out.F.size;unfold Hid;rw[<-j4,yi];refine⟨List.pairwise_append.2 ⟨KP.out.1,List.pairwise_singleton _ _,fun x hx y hy=>?_⟩,fun g hg=>?_⟩
      ·have:=KP.out.2 x hx
       simp at hy;omega
      ·rcases List.mem_append.1 hg with h|h
       ·have:=KP.out.2 g h
        constructor<;>omega
       ·simp at h
        constructor<;>omega
     have atg:Hid ((hs++[wb.heap.size]).length=k+1):=by unfold Hid;simp[Gm.out]
     have axX:=EL.lt;clear OT hsb wL yb pR o1 o2 zC A1 A2 A3 jX Uu Uv zE HK bH zD De wK te EK HC dG as9 hGw;clear EL;go_wp2;go_roundw
     case rel=>exact⟨k+1,_,_,hs++[wb.heap.size],(show k+1<=_ by omega),by go_num,atg,atf,Uw,j6,HFd,Hhd,atc,atd,ate⟩
     case measure=>simp[intOf];omega
    ·obtain rfl:k=md.aJ.length:=by omega
     have hF:=HK.out.F;have hEr:=hF.jO HE.out.1 (fun g hg h=>by
      have:=D6.out.1 g hg;rcases h with h|h|h
      ·exact this.1 h
      ·exact this.2.1 h
      ·exact this.2.2 h)
     have Ux:=ae hEr;have HEb:=ae (fun p hp=>hF.gF (HE.out.2 p hp).2 (fun h=>by
      have:=D6.out.2 p hp;rcases h with h|h|h
      ·exact this.1 h
      ·exact this.2.1 h
      ·exact this.2.2 h))
     have Ut:wr.cell? ⟨b,9,none⟩=some (.slice a9 n9 c9):=HK.out.L.cell 9;have hsr:=hF.size;have ol:=fun g hg=>(jd HE.out.1 g hg).2;have Sg:=ae ol;clear hF hEr ol;go_wp2_with (at_builtin;refine wpList_append_lies _ rfl _ _ 51 rfl base 38 i0 (.slice none 0 0) 1 24 underlying51 nJ cQ cR cZ rfl (by decide) _ _ _ rfl (lP Ux.out _) ⟨wr.heap.size,0,none⟩ 1 1 [.slice (some ⟨G,0,none⟩) md.aJ.length md.aJ.length] rfl rfl ?c1 ?c2 ?c3 ?c4 ?c5 ?c6 (wr.heap.size+1) ?c7 ?_)
     case c1=>exact kb wr 38 #[.slice (some ⟨G,0,none⟩) md.aJ.length md.aJ.length]
     case c2=>intro u hu;simp at hu;subst hu;rfl
     case c3=>decide
     case c4=>unfold maxLen;omega
     case c5=>omega
     case c6=>simp;omega
     case c7=>simp
     intro g9 Gn wc cB cV jA acq;have bC:wr.grownBy wc (Value.slice a9 n9 c9).ownBlock:=aC (aQ _ _ _) cV;have Uy:g9≠b:=by
      rcases jA with h|h
      ·exact(D6.out.1 g9 h).1
      ·omega
     have KS:LW wc b vp u1 u2 va vn ve vr vt vm (.slice a9 n9 c9):=HK.out.L.kept bC (fun e=>(D6.out.1 b e.symm).1 rfl);have jX:=bD wc b 9 (.slice (some ⟨g9,0,none⟩) (gs.length+1) Gn);have f9:=KS.free 9;have d9:wc.cell? ⟨b,9,none⟩=some (.slice a9 n9 c9):=KS.cell 9;have Bi:∀(x:Nat) (T:TypeId) (cs:Array Value),aj wr x T cs->T≠38->x≠b->aj (wc.setCell ⟨b,9,none⟩ (.slice (some ⟨g9,0,none⟩) (gs.length+1) Gn)) x T cs:=fun x T cs h hT hx=>(h.kept bC (fun e=>lD Ux.out h (Ne.symm hT) e.symm)).kept jX (by intro e;injection e with e;exact hx e);have Uz:∀(v:Value) (k:Nat) (zs:List Value),wr.ownsRow base 32 1 v k zs->v.ownBlock≠some b->(wc.setCell ⟨b,9,none⟩ (.slice (some ⟨g9,0,none⟩) (gs.length+1) Gn)).ownsRow base 32 1 v k zs:=fun v k zs h hv=>iJ (iJ h bC (fun g hg e=>qw h Ux.out (by decide) g hg e.symm)) jX (fun g hg e=>by injection e with e;subst e;exact hv hg);have UA:∀(x:Nat) (cs:Array Value),aj wr x 3 cs->x≠b:=fun x cs h e=>by subst e;exact aN (uR HK.out.L h) (by decide)
     have k1:=Uz u1 _ _ HK.out.k1 HK.out.b1;have k2:=Uz u2 _ _ HK.out.k2 HK.out.b2;rw[Bo (by rw[aa8,mn.out];omega)] at k1;rw[Bo (by rw[mn.out];exact bj _)] at k2;have UB:=Bi G _ _ bH.out (by decide) (by omega);rw[<-mn.out,as3 lq.out,mn.out] at UB;have HR:Hid (Rdn w (wc.setCell ⟨b,9,none⟩ (.slice (some ⟨g9,0,none⟩) (gs.length+1) Gn)) b base vp v1 v2 va vn ve vr vt vm (.slice a9 n9 c9) u1 u2 gs n1 md.aJ.length xs ys rs g9 Gn G kF hs):=
      {L:=KS.set 9 _
       k1:=k1
       k2:=k2
       b1:=HK.out.b1
       b2:=HK.out.b2
       sY:=HK.out.sY
       o1:=HK.out.o1
       o2:=HK.out.o2
       l1:=by rw[lq.out,mn.out]
       l2:=Gm.out
       so:=KP.out.1
       ab:=fun g hg=>(KP.out.2 g hg).1
       f1:=fun j g l hj hl=>Bi g _ _ (zD.out j g l hj hl) (by decide) (UA g _ (zD.out j g l hj hl))
       f2:=fun j g l hj hl=>Bi g _ _ (De.out j g l hj hl) (by decide) (UA g _ (De.out j g l hj hl))
       E:=⟨by
        have e:=iJ cB jX (fun g hg e=>by have h1:some g9=some g:=hg;injection h1 with h1;injection e with e;exact Uy (h1.trans e))
        simpa using e,fun p hp=>by
        rcases List.mem_append.1 hp with hp|hp
        ·exact⟨(HE.out.2 p hp).1,Bi p.1 _ _ (HEb.out p hp) (by decide) (D6.out.2 p hp).1⟩
        ·simp at hp;subst hp;exact⟨by show md.aJ.length<=1000;omega,UB⟩⟩
       bB:=⟨by omega,EK.out.1,EK.out.2.1⟩
       o9:=⟨jA.imp id (fun h=>by omega),Uy⟩
       F:=((HK.out.F.mono (fun k _ h=>by
        rcases h with h|h|h
        ·exact .inl h
        ·exact .inr (.inl h)
        ·exact .inr (.inr (.inl h)))).iI bC (fun g hg=>.inr (.inr (.inr (.inr hg))))).iI jX (fun g hg=>.inr (.inl (by injection hg with hg;exact hg.symm))) }
     have UC:=KS.lt;clear cB cV jA acq bC Uy KS jX Bi Uz UA k1 k2 UB;go_wp2;go_ret;exact⟨rfl,u1,u2,g9,Gn,G,kF,hs,by rw[HRs.out];exact HR.out⟩
theorem ati{gs hs:List Nat}{g h n:Nat}(h0:(gs++hs).Nodup)(aK:∀x∈gs++hs,x<n)(hg:n<=g)(hh:g<h):((gs++[g])++(hs++[h])).Nodup:=by
 have l1:∀x∈gs,x<n:=fun x hx=>aK x (List.mem_append_left _ hx);have l2:∀x∈hs,x<n:=fun x hx=>aK x (List.mem_append_right _ hx);obtain⟨a,c,d⟩:=List.nodup_append.1 h0;refine List.nodup_append.2 ⟨List.nodup_append.2 ⟨a,by simp,fun x hx y hy=>?_⟩,List.nodup_append.2 ⟨c,by simp,fun x hx y hy=>?_⟩,fun x hx y hy=>?_⟩
 ·have:=l1 x hx
  simp at hy;omega
 ·have:=l2 x hx
  simp at hy;omega
 ·rcases List.mem_append.1 hx with hx|hx
  ·have df:=l1 x hx
   rcases List.mem_append.1 hy with hy|hy
   ·exact d x hx y hy
   ·simp at hy
    omega
  ·simp at hx
   rcases List.mem_append.1 hy with hy|hy
   ·have:=l2 y hy
    omega
   ·simp at hy
    omega
theorem Fr.cell{S:Nat->Prop}{w w':World}{b i:Nat}{v:Value}{T:TypeId}{cs:Array Value}(h:Fr S w w')(hB:aj w b T cs)(hS:¬S b)(hc:cs[i]?=some v):w'.cell? ⟨b,i,none⟩=some v:=by
 rw[(h.gF hB hS).cell i,hc]
theorem Kp.ae0{w wr:World}{b base n:Nat}{vp v1 v2 va vn ve vr vt vm vo u1 u2:Value}{xs ys:List Value}(h:Kp w wr b base vp v1 v2 va vn ve vr vt vm vo u1 u2 n xs ys)(v:Value):Kp w (wr.setCell ⟨b,6,none⟩ v) b base vp v1 v2 va vn ve v vt vm vo u1 u2 n xs ys:=
 ⟨h.L.set 6 v,iJ h.k1 (bD wr b 6 v) (fun g hg e=>by injection e with e;subst e;exact h.b1 hg),iJ h.k2 (bD wr b 6 v) (fun g hg e=>by injection e with e;subst e;exact h.b2 hg),h.b1,h.b2,h.sY,h.o1,h.o2,h.F.iI (bD wr b 6 v) (fun g hg=>.inr (.inl (by injection hg with hg;exact hg.symm)))⟩
theorem Kp.app{w wr mx:World}{b base n:Nat}{vp v1 v2 va vn ve vr vt vm vo u1 u2 v:Value}{xs ys:List Value}(h:Kp w wr b base vp v1 v2 va vn ve vr vt vm vo u1 u2 n xs ys)(hg:wr.grownBy mx v.ownBlock)(hv:∀g,v.ownBlock=some g->w.heap.size<=g/\g≠b/\u1.ownBlock≠some g/\u2.ownBlock≠some g):Kp w mx b base vp v1 v2 va vn ve vr vt vm vo u1 u2 n xs ys:=by
 rcases e:v.ownBlock with _|g
 ·rw[e] at hg;exact h.grow hg
 ·rw[e] at hg
  obtain⟨a1,a2,a3,a4⟩:=hv g e;exact h.O7 hg a2 a3 a4 a1
theorem Kp.Sv{w wr:World}{b base n:Nat}{vp v1 v2 va vn ve vr vt vm vo u1 u2:Value}{xs ys:List Value}(h:Kp w wr b base vp v1 v2 va vn ve vr vt vm vo u1 u2 n xs ys):Kp wr wr b base vp u1 u2 va vn ve vr vt vm vo u1 u2 n xs ys:=
 ⟨h.L,h.k1,h.k2,h.b1,h.b2,h.sY,fun _ e=>.inl e,fun _ e=>.inl e,Fr.refl _ _⟩
theorem Kp.iI{w w1 wr:World}{b base n:Nat}{vp v1 v2 va vn ve vr vt vm vo u1 u2:Value}{xs ys:List Value}(hF:Fr (fun k=>k=b\/v1.ownBlock=some k\/v2.ownBlock=some k) w w1)(h:Kp w1 wr b base vp v1 v2 va vn ve vr vt vm vo u1 u2 n xs ys):Kp w wr b base vp v1 v2 va vn ve vr vt vm vo u1 u2 n xs ys:=
 ⟨h.L,h.k1,h.k2,h.b1,h.b2,h.sY,fun g e=>(h.o1 g e).imp id (fun h'=>jK hF.size h'),fun g e=>(h.o2 g e).imp id (fun h'=>jK hF.size h'),hF.trans h.F⟩
structure uU(w w':World)(b base:Nat)(vp v1 v2 va vn ve vr vt vm vo u1 u2:Value)(n1 m:Nat)(xs ys:List Value)(rs:List (List Int))(gs hs:List Nat):Prop where
 K:Kp w w' b base vp v1 v2 va vn ve vr vt vm vo u1 u2 (n1+m) (xs++List.zipWith dg gs rs) (ys++List.zipWith dg hs rs)
 l0:rs.length=m
 l1:gs.length=m
 l2:hs.length=m
 nd:(gs++hs).Nodup
 ab:∀g∈gs++hs,w.heap.size<=g/\g<w'.heap.size
 f1:∀(j:Nat) g l,gs[j]?=some g->rs[j]?=some l->aj w' g 3 (l.map (Value.int .i64)).toArray
 f2:∀(j:Nat) g l,hs[j]?=some g->rs[j]?=some l->aj w' g 3 (l.map (Value.int .i64)).toArray
 R:w'.ownsRow w.heap.size 32 1 vr m (List.zipWith dg gs rs)
 sh:∀l∈rs,l.length<=512
 rb:∀g,vr.ownBlock=some g->g≠b/\u1.ownBlock≠some g/\u2.ownBlock≠some g
theorem uU.nil{w:World}{b base n1:Nat}{vp v1 v2 va vn ve vt vm vo:Value}{xs ys:List Value}(h:Kp w w b base vp v1 v2 va vn ve (.slice none 0 0) vt vm vo v1 v2 n1 xs ys):uU w w b base vp v1 v2 va vn ve (.slice none 0 0) vt vm vo v1 v2 n1 0 xs ys [] [] []:=
 ⟨by simpa using h,rfl,rfl,rfl,by simp,by simp,by simp,by simp,by simpa using kq _ _ _ _,by simp,fun g e=>by cases e⟩
theorem uU.grow{w w1 w2:World}{b base n1 m:Nat}{vp v1 v2 va vn ve vr vt vm vo u1 u2:Value}{xs ys:List Value}{rs:List (List Int)}{gs hs:List Nat}(h:uU w w1 b base vp v1 v2 va vn ve vr vt vm vo u1 u2 n1 m xs ys rs gs hs)(hg:w1.grownBy w2 none):uU w w2 b base vp v1 v2 va vn ve vr vt vm vo u1 u2 n1 m xs ys rs gs hs:=
 ⟨h.K.grow hg,h.l0,h.l1,h.l2,h.nd,fun g hx=>⟨(h.ab g hx).1,qB (h.ab g hx).2 hg.size⟩,fun j g l a c=>(h.f1 j g l a c).kept hg (by simp),fun j g l a c=>(h.f2 j g l a c).kept hg (by simp),iJ h.R hg (by simp),h.sh,h.rb⟩
theorem UD{gs:List Nat}{rs:List (List Int)}(h:gs.length=rs.length)(g:Nat)(l:List Int):List.zipWith dg (gs++[g]) (rs++[l])=List.zipWith dg gs rs++[dg g l]:=by
 rw[R4 h];rfl
theorem ae1{α β:Type}{xs:List α}{ys:List β}{P:α->β->Prop}(h:xs.length=ys.length)(hP:∀(j:Nat) x y,xs[j]?=some x->ys[j]?=some y->P x y){a:α}{c:β}(TR:P a c):∀(j:Nat) x y,(xs++[a])[j]?=some x->(ys++[c])[j]?=some y->P x y:=fun j x y hx hy=>by
 rcases cF j xs.length with hj|hj
 ·rw[rn hj] at hx
  rw[rn (by omega)] at hy;exact hP j x y hx hy
 ·rw[oL hj] at hx
  rw[oL (by omega),<-h] at hy;have e:j-xs.length=0:=by have:=M.bP hx;simp at this;omega
  rw[e] at hx hy;simp at hx hy;subst hx hy;exact TR
theorem uU.pk{w w' wc wd:World}{b base n1 k g0 g1 UE g2 UF gr cr:Nat}{vp v1 v2 va vn ve vr vt vm vo u1 u2:Value}{xs ys:List Value}{rs:List (List Int)}{gs hs:List Nat}{l:List Int}
  (h:uU w w' b base vp v1 v2 va vn ve vr vt vm vo u1 u2 n1 k xs ys rs gs hs) (hBl:aj w' g0 3 (l.map (Value.int .i64)).toArray)
  (wL:Kp w wc b base vp v1 v2 va vn ve vr vt vm vo (.slice (some ⟨g1,0,none⟩) (n1+k+1) UE) (.slice (some ⟨g2,0,none⟩) (n1+k+1) UF) (n1+k+1) (xs++List.zipWith dg gs rs++[.slice (some ⟨g0,0,none⟩) l.length l.length]) (ys++List.zipWith dg hs rs++[dg w'.heap.size l]))
  (yb:aj wc w'.heap.size 3 (l.map (Value.int .i64)).toArray) (pR:Fr (fun k=>k=b\/u1.ownBlock=some k\/u2.ownBlock=some k) w' wc) (o1:u1.ownBlock=some g1\/w'.heap.size<g1) (o2:u2.ownBlock=some g2\/w'.heap.size<g2)
  (cB:wd.ownsRow w.heap.size 32 1 (.slice (some ⟨gr,0,none⟩) (k+1) cr) (k+1) (List.zipWith dg gs rs++[.slice (some ⟨g0,0,none⟩) l.length l.length])) (bC:wc.grownBy wd vr.ownBlock) (jA:vr.ownBlock=some gr\/gr=wc.heap.size+1)
  (atk:w.heap.size<=g0) (uV:∀g∈gs++hs,g<g0) (jB:l.length<=512) :
  uU w (wd.setCell ⟨b,6,none⟩ (.slice (some ⟨gr,0,none⟩) (k+1) cr)) b base vp v1 v2 va vn ve (.slice (some ⟨gr,0,none⟩) (k+1) cr) vt vm vo (.slice (some ⟨g1,0,none⟩) (n1+k+1) UE) (.slice (some ⟨g2,0,none⟩) (n1+k+1) UF) n1 (k+1) xs ys (rs++[l]) (gs++[g0]) (hs++[w'.heap.size]):=by
 have wS:=hBl.lt;have rJ:=h.K.F.size;have Ih:=pR.size;have hwd:=bC.size;have zC:=h.K.zC;have hRc:=pR.jO h.R (fun g hg hx=>by
  have:=h.rb g hg;rcases hx with hx|hx|hx
  ·exact this.1 hx
  ·exact this.2.1 hx
  ·exact this.2.2 hx)
 have lv:∀g,vr.ownBlock=some g->w.heap.size<=g/\g<w'.heap.size:=fun g hg=>jd h.R g hg;have l1:=(jd wL.k1 g1 rfl).2;have l2:=(jd wL.k2 g2 rfl).2;have UG:∀g,vr.ownBlock=some g->g≠g1/\g≠g2:=fun g hg=>by
  have r:=h.rb g hg;have:=(lv g hg).2;refine⟨fun e=>?_,fun e=>?_⟩
  ·subst e
   rcases o1 with h' | h'
   ·exact r.2.1 h'
   ·omega
  ·subst e
   rcases o2 with h' | h'
   ·exact r.2.2 h'
   ·omega
 have hKd:=wL.app bC (fun g hg=>⟨(lv g hg).1,(h.rb g hg).1,fun e=>(UG g hg).1 (by have e1:some g1=some g:=e;injection e1 with e1;exact e1.symm),fun e=>(UG g hg).2 (by have e1:some g2=some g:=e;injection e1 with e1;exact e1.symm)⟩);have Gp:gr≠b/\gr≠g1/\gr≠g2:=by
  rcases jA with e|e
  ·exact⟨(h.rb gr e).1,UG gr e⟩
  ·have:=wL.L.lt
   omega
 have jX:=bD wd b 6 (.slice (some ⟨gr,0,none⟩) (k+1) cr);have zE:∀(x:Nat) (cs:Array Value),aj wc x 3 cs->aj (wd.setCell ⟨b,6,none⟩ (.slice (some ⟨gr,0,none⟩) (k+1) cr)) x 3 cs:=fun x cs hx=>(hx.kept bC (fun e=>lD hRc hx (by decide) e.symm)).kept jX (by intro e;injection e with e;subst e;exact aN (uR wL.L hx) (by decide));have UH:∀(x:Nat) (cs:Array Value),aj w' x 3 cs->aj (wd.setCell ⟨b,6,none⟩ (.slice (some ⟨gr,0,none⟩) (k+1) cr)) x 3 cs:=fun x cs hx=>zE x cs (pR.gF hx (fun hs=>zC x hs cs hx));have UI:gs.length=rs.length:=by rw[h.l1,h.l0]
 have el2:hs.length=rs.length:=by rw[h.l2,h.l0]
 have hK:=hKd.ae0 (.slice (some ⟨gr,0,none⟩) (k+1) cr);rw[j4,j4] at hK;refine⟨?_,by simp[h.l0],by simp[h.l1],by simp[h.l2],ati h.nd uV (bj _) (by omega),fun g hg=>?_,ae1 UI (fun j g l a c=>UH _ _ (h.f1 j g l a c)) (UH _ _ hBl),ae1 el2 (fun j g l a c=>UH _ _ (h.f2 j g l a c)) (zE _ _ yb),?_,fun x hx=>?_,fun g hg=>?_⟩
 ·rw[UD UI,UD el2];exact hK
 ·rw[yi]
  have dd:g∈gs++hs\/g=g0\/g=w'.heap.size:=by
   simp only[Ac,WO] at hg ⊢;rcases hg with(hg|hg)|(hg|hg)
   ·exact .inl (.inl hg)
   ·exact .inr (.inl hg)
   ·exact .inl (.inr hg)
   ·exact .inr (.inr hg)
  have:=yb.lt;rcases dd with dd|dd|dd
  ·have:=h.ab g dd
   constructor<;>omega
  ·constructor<;>omega
  ·constructor<;>omega
 ·rw[UD UI]
  exact iJ cB jX (fun g hg e=>by have e1:some gr=some g:=hg;injection e1 with e1;injection e with e;exact Gp.1 (e1.trans e))
 ·rcases List.mem_append.1 hx with hx|hx
  ·exact h.sh x hx
  ·simp at hx;subst hx;exact jB
 ·have e1:some gr=some g:=hg
  injection e1 with e1;subst e1;exact⟨Gp.1,fun e=>Gp.2.1 (by have e1:some g1=some gr:=e;injection e1 with e1;exact e1.symm),fun e=>Gp.2.2 (by have e1:some g2=some gr:=e;injection e1 with e1;exact e1.symm)⟩
end Go.Proofs.YtcnhfffgbamonabGreat
