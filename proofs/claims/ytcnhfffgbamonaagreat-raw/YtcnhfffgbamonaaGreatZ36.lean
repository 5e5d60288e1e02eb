import Derived.Test.YtcnhfffgbamonaaGreatZ51
import Derived.Test.YtcnhfffgbamonaaGreatZ35
set_option maxRecDepth 100000
set_option maxHeartbeats 6400000
namespace Go.Proofs.YtcnhfffgbamonaaGreat
open Go.Proofs.Tryz
open RowKit
theorem at3(b DF q gb:Nat)(md:M.Md)(a9:Option Addr)(n9 c9:Nat)(gs:List (Nat×Nat))(a:Option Addr)(n c:Nat)(ins:List (List Int))(wz w:World)(gz:wz.grownBy w none)
  (hc:w.cell? ⟨b,9,none⟩=some (.slice a9 n9 c9)) (hE:wD w DF (.slice a9 n9 c9) gs) (hg:gs.length<=1000000000) (hP:Pl w q md) (hG:lF w gb (R.dp md)) (h1:O.iP md) (tL:0<md.au.length)
  (hI:rD wz w (.slice a n c) ins) (hl:∀l∈ins,l.length<=9223372036854775807) (hn:ins.length<=9223372036854775807) (hh:D.jP md ins=false):
 Calls prog 18 #[.pointer (some ⟨b,0,none⟩),.agg #[.pointer (some ⟨q,0,none⟩),.pointer (some ⟨gb,0,none⟩)],.slice a n c] w fun e w'=>e=.returned (.bool true)/\w.grownBy w' none:=by
 have g0:=aQ w (.cells #[.pointer (some ⟨q,0,none⟩),.pointer (some ⟨gb,0,none⟩)] 39) none;have iE:=aj.bA w 39 #[.pointer (some ⟨q,0,none⟩),.pointer (some ⟨gb,0,none⟩)];have jq:=ae (abz q md a n c ins _ (hP.Z g0) ((hI.Z g0).lsl (aC gz g0)) hl hn);have sx:=ae (fun w1 (aH:w.grownBy w1 none)=>afh gb md a n c ins wz w1 (aC gz aH) (hG.Z aH) h1 (hI.Z aH) hl hn tL);have jd:=ae (fun w1 (aH:w.grownBy w1 none)=>SN b DF a9 n9 c9 gs w1 (aG aH hc) (hE.Z aH) hg);have OL:∀(W:World),(binOp .eql 25 (.slice none 0 0) (.slice none 0 0)).run prog W=.ok (.bool true) W:=fun W=>Lib.run_eql_slice_nil W 25 33 none 0 0 0 0 underlying25;have G0:=ae g0;have lU:=ae iE;have Hh:=ae hh;have p0:(w.alloc (.cells #[.pointer (some ⟨q,0,none⟩),.pointer (some ⟨gb,0,none⟩)] 39)).cell? ⟨w.heap.size,0,none⟩=some (.pointer (some ⟨q,0,none⟩)):=iE.cell 0;clear gz g0 iE hP hI hG h1 hl hE hc hh;go_enter func18,ntmps18;go_wp2_with fail;refine jq.out.mono ?_;rintro e w1⟨aH,hc⟩;have G1:=ae (aC G0.out aH);have p1:w1.cell? ⟨w.heap.size,1,none⟩=some (.pointer (some ⟨gb,0,none⟩)):=aG aH (lU.out.cell 1);clear jq aH lU G0 p0;rcases hc with⟨-,rfl⟩|⟨ht,-⟩
 ·go_wp2_with fail
  refine(jd.out w1 G1.out).mono ?_;rintro e w2⟨rfl,rfl⟩;clear jd;go_wp2_with fail;refine(sx.out _ G1.out).mono ?_;rintro e w3⟨aU,h3⟩;have G3:=ae (aC G1.out aU);clear sx aU p1;rcases h3 with⟨-,rfl⟩|⟨ht,-⟩
  ·go_wp2
   go_ret;exact⟨rfl,G3.out⟩
  ·rw[Hh.out] at ht;exact aN ht (by decide)
 ·rw[Hh.out] at ht;exact aN ht (by decide)
theorem kW{w:World}{base n g t:Nat}{v:Value}{xs:List Value}{cs:Array Value}{T:TypeId}(h:w.ownsRow base T t v n xs){T':TypeId}(hB:aj w g T' cs)(ey:T≠T'):v.ownBlock≠some g:=by
 intro e;rcases h.2 with h' |⟨g',cap,dY,rfl,hb,hg,hr⟩
 ·rcases h' with⟨rfl,-⟩;cases e
 ·have e1:some g'=some g:=e
  injection e1 with e1;subst e1;unfold aj at hB;rw[hB] at hg;injection hg with hg;injection hg with _ h2;exact ey h2.symm
structure Kp(w wr:World)(b base:Nat)(vp v1 v2 va vn ve vr vt vm vo u1 u2:Value)(n:Nat)(xs ys:List Value):Prop where
 L:LW wr b vp u1 u2 va vn ve vr vt vm vo
 k1:wr.ownsRow base 33 1 u1 n xs
 k2:wr.ownsRow base 33 1 u2 n ys
 b1:u1.ownBlock≠some b
 b2:u2.ownBlock≠some b
 tD:∀g,u1.ownBlock=some g->u2.ownBlock≠some g
 o1:∀g,u1.ownBlock=some g->v1.ownBlock=some g\/w.heap.size<=g
 o2:∀g,u2.ownBlock=some g->v2.ownBlock=some g\/w.heap.size<=g
 F:Fr (fun k=>k=b\/v1.ownBlock=some k\/v2.ownBlock=some k) w wr
theorem Kp.grow{w wr mE:World}{b base n:Nat}{vp v1 v2 va vn ve vr vt vm vo u1 u2:Value}{xs ys:List Value}(h:Kp w wr b base vp v1 v2 va vn ve vr vt vm vo u1 u2 n xs ys)(hg:wr.grownBy mE none):Kp w mE b base vp v1 v2 va vn ve vr vt vm vo u1 u2 n xs ys:=
 ⟨h.L.kept hg (by simp),iF h.k1 hg (by simp),iF h.k2 hg (by simp),h.b1,h.b2,h.tD,h.o1,h.o2,h.F.iK hg (fun g e=>by cases e)⟩
theorem Kp.PE{w wr mE:World}{b base n G:Nat}{vp v1 v2 va vn ve vr vt vm vo u1 u2:Value}{xs ys:List Value}(h:Kp w wr b base vp v1 v2 va vn ve vr vt vm vo u1 u2 n xs ys)(hg:wr.grownBy mE (some G))(hb:G≠b)(h1:u1.ownBlock≠some G)(h2:u2.ownBlock≠some G)(hG:w.heap.size<=G):Kp w mE b base vp v1 v2 va vn ve vr vt vm vo u1 u2 n xs ys:=
 ⟨h.L.kept hg (by intro e;injection e with e;exact hb e.symm),iF h.k1 hg (fun g e e'=>by injection e' with e';subst e';exact h1 e),iF h.k2 hg (fun g e e'=>by injection e' with e';subst e';exact h2 e),h.b1,h.b2,h.tD,h.o1,h.o2,h.F.iK hg (fun g e=>by injection e with e;subst e;exact .inl hG)⟩
theorem Kp.Bz{w wr:World}{b base n:Nat}{vp v1 v2 va vn ve vr vt vm vo u1 u2:Value}{xs ys:List Value}(h:Kp w wr b base vp v1 v2 va vn ve vr vt vm vo u1 u2 n xs ys)(zg:base<=w.heap.size)(hn:n<=1000000000){ao:Option Addr}{c:Nat}{l:List Int}(hS:Sl wr (.slice ao l.length c) l)(hl:l.length<=1000000000):
 Calls prog 39 #[.pointer (some ⟨b,0,none⟩),.slice ao l.length c] wr fun e w'=>e=.returned (.tuple #[])/\∃g1 c1 g2 c2,
   Kp w w' b base vp v1 v2 va vn ve vr vt vm vo (.slice (some ⟨g1,0,none⟩) (n+1) c1) (.slice (some ⟨g2,0,none⟩) (n+1) c2) (n+1) (xs++[.slice ao l.length c]) (ys++[cT wr.heap.size l]) /\
   aj w' wr.heap.size 3 (l.map (Value.int .i64)).toArray/\Fr (fun k=>k=b\/u1.ownBlock=some k\/u2.ownBlock=some k) wr w'/\(u1.ownBlock=some g1\/wr.heap.size<g1)/\(u2.ownBlock=some g2\/wr.heap.size<g2):=
 (aoh b base vp u1 u2 va vn ve vr vt vm vo n n xs ys ao l.length c l wr h.L h.k1 h.k2 h.b1 h.b2 h.tD (jN zg h.F.size) hS hl hn hn).mono fun _ w' ⟨he,g1,c1,g2,c2,hL,xz,qo,hB,Bc,Ky,ze,Ch,xB,hF⟩=>
  ⟨he,g1,c1,g2,c2,⟨hL,xz,qo,fun e=>ze (by injection e),fun e=>Ch (by injection e),fun g e e'=>xB (by have e1:some g1=some g:=e;have e2:some g2=some g:=e';rw[<-e2] at e1;injection e1),fun g e=>by
    have e1:some g1=some g:=e;injection e1 with e1;subst e1;rcases Bc with h' |h'
    ·exact h.o1 g1 h'
    ·exact .inr (by have:=h.F.size;omega),fun g e=>by
    have e1:some g2=some g:=e;injection e1 with e1;subst e1;rcases Ky with h' |h'
    ·exact h.o2 g2 h'
    ·exact .inr (by have:=h.F.size;omega),by
   refine⟨hF.os.trans h.F.os,hF.tape.trans h.F.tape,hF.output.trans h.F.output,jN h.F.size hF.size,fun k hk hn=>?_⟩;refine(hF.block k (qN hk h.F.size) (fun hs=>hn ?_)).trans (h.F.block k hk hn);rcases hs with hs|hs|hs
   ·exact .inl hs
   ·rcases h.o1 k hs with h' |h'
    ·exact .inr (.inl h')
    ·omega
   ·rcases h.o2 k hs with h' |h'
    ·exact .inr (.inr h')
    ·omega⟩,hB,hF,Bc,Ky⟩
theorem lY.fr{wz w w':World}{S:Nat->Prop}{v:Value}{l:List Int}(h:lY wz w v l)(hF:Fr S w w')(hS:∀g,S g->∀cs,¬aj w g 3 cs):lY wz w' v l:=by
 rcases h with h|h|h
 ·exact .inl h
 ·refine .inr (.inl (hF.jI h fun g hg hs=>?_))
  rcases h.2 with h' |⟨g',cap,dY,rfl,hb,fS,hr⟩
  ·rcases h' with⟨rfl,-⟩;cases hg
  ·have e1:some g'=some g:=hg
   injection e1 with e1;subst e1;exact hS g' hs dY fS
 ·obtain⟨g,k,c,cs,e,hB,hc⟩:=h
  exact .inr (.inr ⟨g,k,c,cs,e,hF.gy hB (fun hs=>hS g hs cs hB),hc⟩)
theorem sH.fr{wz w w':World}{S:Nat->Prop}{vs:List Value}{ls:List (List Int)}{k:Nat}(h:sH wz w vs ls k)(hF:Fr S w w')(hS:∀g,S g->∀cs,¬aj w g 3 cs):sH wz w' vs ls k:=
 ⟨h.lv,h.ll,fun j u l hu hl=>by obtain⟨a,cp,e,hs⟩:=h.bN j u l hu hl;exact⟨a,cp,e,hs.fr hF hS⟩⟩
theorem Kp.zU{w wr:World}{b base n:Nat}{vp v1 v2 va vn ve vr vt vm vo u1 u2:Value}{xs ys:List Value}(h:Kp w wr b base vp v1 v2 va vn ve vr vt vm vo u1 u2 n xs ys):∀g,(g=b\/u1.ownBlock=some g\/u2.ownBlock=some g)->∀cs,¬aj wr g 3 cs:=by
 intro g hg cs hB;rcases hg with rfl|hg|hg
 ·exact aN (tT h.L hB) (by decide)
 ·exact kW h.k1 hB (by decide) hg
 ·exact kW h.k2 hB (by decide) hg
def vf(gs:List Nat)(ls:List (List Int))(k:Nat):List Value:=List.replicate k zs++(List.zipWith cT gs ls).drop k
theorem at4(gs:List Nat)(ls:List (List Int)):vf gs ls 0=List.zipWith cT gs ls:=by unfold vf;simp
theorem afB{gs:List Nat}{ls:List (List Int)}{k g:Nat}{l:List Int}(hg:gs[k]?=some g)(hl:ls[k]?=some l):(vf gs ls k)[k]?=some (cT g l):=by
 unfold vf;rw[og (by simp),vT,Nat.sub_self,List.getElem?_drop,Nat.add_zero,aa7,hg,hl]
theorem at5{gs:List Nat}{ls:List (List Int)}{k g:Nat}{l:List Int}(hg:gs[k]?=some g)(hl:ls[k]?=some l):(vf gs ls k).set k zs=vf gs ls (k+1):=by
 have hk:k<(List.zipWith cT gs ls).length:=by
  have h1:=M.bP hg;have h2:=M.bP hl;rw[aa8];omega
 unfold vf;rw[List.set_append_right _ _ (by simp),vT,Nat.sub_self,List.drop_eq_getElem_cons hk,List.set_cons_zero,List.replicate_succ',j8]
 rfl
theorem at6{gs:List Nat}{ls:List (List Int)}(h:gs.length=ls.length):vf gs ls ls.length=List.replicate ls.length zs:=by
 unfold vf;rw[List.drop_of_length_le (by simp[h]),List.append_nil]
theorem at7{gs:List Nat}{ls:List (List Int)}{k g:Nat}{l:List Int}(hg:gs[k]?=some g)(hl:ls[k]?=some l):(List.zipWith cT gs ls).take (k+1)=(List.zipWith cT gs ls).take k++[cT g l]:=by
 refine H.kd ?_;rw[aa7,hg,hl]
theorem Tryz.at8:(prog.info? 25).map (fun i=>(i.zero,i.size,i.bytes))=some (some (.slice none 0 0),1,24):=by kernel_rfl
theorem qG{w:World}{base base' n n' t t':Nat}{v v':Value}{T T':TypeId}{xs xs':List Value}(h:w.ownsRow base T t v n xs)(h':w.ownsRow base' T' t' v' n' xs')(ey:T≠T'):∀g,v.ownBlock=some g->v'.ownBlock≠some g:=fun g e=>by
 rcases h.2 with h0|⟨g',cap,dY,rfl,hb,hg,hr⟩
 ·rcases h0 with⟨rfl,-⟩;cases e
 ·have e1:some g'=some g:=e
  injection e1 with e1;subst e1;exact kW h' (show aj w g' T dY from hg) (Ne.symm ey)
structure Rdn(w w':World)(b base:Nat)(vp v1 v2 va vn ve vr vt vm vo u1 u2:Value)(gs:List (Nat×Nat))(n1 m:Nat)(xs ys:List Value)(rs:List (List Int))(g9 c9 G:Nat)(kJ hs:List Nat):Prop where
 L:LW w' b vp u1 u2 va vn ve vr vt vm (.slice (some ⟨g9,0,none⟩) (gs.length+1) c9)
 k1:w'.ownsRow base 33 1 u1 (n1+m) (xs++List.zipWith cT kJ rs)
 k2:w'.ownsRow base 33 1 u2 (n1+m) (ys++List.zipWith cT hs rs)
 b1:u1.ownBlock≠some b
 b2:u2.ownBlock≠some b
 tD:∀g,u1.ownBlock=some g->u2.ownBlock≠some g
 o1:∀g,u1.ownBlock=some g->v1.ownBlock=some g\/w.heap.size<=g
 o2:∀g,u2.ownBlock=some g->v2.ownBlock=some g\/w.heap.size<=g
 l1:kJ.length=m
 l2:hs.length=m
 so:(kJ++hs).Pairwise (· < ·)
 ab:∀g∈kJ++hs,w.heap.size<=g
 f1:∀(j:Nat) g l,kJ[j]?=some g->rs[j]?=some l->aj w' g 3 (l.map (Value.int .i64)).toArray
 f2:∀(j:Nat) g l,hs[j]?=some g->rs[j]?=some l->aj w' g 3 (l.map (Value.int .i64)).toArray
 E:wD w' base (.slice (some ⟨g9,0,none⟩) (gs.length+1) c9) (gs++[(G,m)])
 bA:w.heap.size<=G/\u1.ownBlock≠some G/\u2.ownBlock≠some G
 o9:(vo.ownBlock=some g9\/w.heap.size<=g9)/\g9≠b
 F:Fr (fun k=>k=b\/v1.ownBlock=some k\/v2.ownBlock=some k\/vo.ownBlock=some k) w w'
theorem aua(b base q gb:Nat)(md:M.Md)(vp v1 v2 va vn ve vr vt vm:Value)(a9:Option Addr)(n9 c9:Nat)(gs:List (Nat×Nat))(n1:Nat)(xs ys:List Value)(a:Option Addr)(n c:Nat)(ins:List (List Int))(wz w:World)(gz:wz.grownBy w none)
  (hK:Kp w w b base vp v1 v2 va vn ve vr vt vm (.slice a9 n9 c9) v1 v2 n1 xs ys) (zg:base<=w.heap.size) (hz:∀g,(g=b\/v1.ownBlock=some g\/v2.ownBlock=some g)->wz.heap.size<=g) (iq:n1<=900000000)
  (hE:wD w base (.slice a9 n9 c9) gs) (hg:gs.length<=900000000) (hob:∀g,(Value.slice a9 n9 c9).ownBlock=some g->g≠b/\v1.ownBlock≠some g/\v2.ownBlock≠some g) (hEb:∀p∈gs,p.1≠b/\v1.ownBlock≠some p.1/\v2.ownBlock≠some p.1) (hP:Pl w q md) (hG:lF w gb (R.dp md)) (h1:O.iP md) (tL:0<md.au.length)
  (hI:rD wz w (.slice a n c) ins) (hl:∀l∈ins,l.length<=9223372036854775807) (hn:ins.length<=9223372036854775807) (hh:D.jP md ins=true):
 Calls prog 18 #[.pointer (some ⟨b,0,none⟩),.agg #[.pointer (some ⟨q,0,none⟩),.pointer (some ⟨gb,0,none⟩)],.slice a n c] w fun e w'=>e=.returned (.bool true)/\∃u1 u2 g9 U2 G kJ hs,Rdn w w' b base vp v1 v2 va vn ve vr vt vm (.slice a9 n9 c9) u1 u2 gs n1 md.aK.length xs ys (D.run md ins) g9 U2 G kJ hs:=by
 obtain⟨i0,mB,cP,cQ,cZ⟩:=info_parts Tryz.at8;have g0:=aQ w (.cells #[.pointer (some ⟨q,0,none⟩),.pointer (some ⟨gb,0,none⟩)] 39) none;have iE:=aj.bA w 39 #[.pointer (some ⟨q,0,none⟩),.pointer (some ⟨gb,0,none⟩)];have jq:=ae (abz q md a n c ins _ (hP.Z g0) ((hI.Z g0).lsl (aC gz g0)) hl hn);have sx:=ae (fun w1 (aH:w.grownBy w1 none)=>afh gb md a n c ins wz w1 (aC gz aH) (hG.Z aH) h1 (hI.Z aH) hl hn tL);have jd:=ae (fun w1 (aH:w.grownBy w1 none)=>SN b base a9 n9 c9 gs w1 (aG aH (hK.L.cell 9)) (hE.Z aH) (by omega));have G0:=ae g0;have lU:=ae iE;have Hh:=ae hh;have HK:=ae hK;have HE:=ae hE;have hnu:=h1.dQ.nu;have OR:=ae (aby h1 hh);have dh:=hK.L.lt;have PF:Hid (∀g,(v1.ownBlock=some g\/v2.ownBlock=some g)->g<w.heap.size):=fun g hg=>hg.elim (fun e=>(iL hK.k1 g e).2) (fun e=>(iL hK.k2 g e).2);have p0:(w.alloc (.cells #[.pointer (some ⟨q,0,none⟩),.pointer (some ⟨gb,0,none⟩)] 39)).cell? ⟨w.heap.size,0,none⟩=some (.pointer (some ⟨q,0,none⟩)):=iE.cell 0;have zn:(w.alloc (.cells #[.pointer (some ⟨q,0,none⟩),.pointer (some ⟨gb,0,none⟩)] 39)).heap.size=w.heap.size+1:=by simp
 have my:=ae (show(D.run md ins).length=md.aK.length by unfold D.run;simp);have Hz:=ae (And.intro gz hz);have Er:=ae (And.intro hob hEb);clear hob hEb;clear g0 iE hP hI hG h1 hl hE hh hK gz hz;go_enter func18,ntmps18;go_wp2_with fail;refine jq.out.mono ?_;rintro e w1⟨aH,hc⟩;have G1:=ae (aC G0.out aH);have p1:w1.cell? ⟨w.heap.size,1,none⟩=some (.pointer (some ⟨gb,0,none⟩)):=aG aH (lU.out.cell 1);clear jq aH lU G0 p0;rcases hc with⟨ht,-⟩|⟨-,G,kJ,rfl,hF⟩
 ·rw[Hh.out] at ht;exact aN ht (by decide)
 ·rw[zn] at hF
  have HF:=ae hF;clear hF zn;go_wp2_with fail;refine(jd.out w1 G1.out).mono ?_;rintro e w2⟨rfl,rfl⟩;clear jd;go_wp2_with fail;refine(sx.out _ G1.out).mono ?_;rintro e w3⟨aU,h3⟩;rcases h3 with⟨ht,-⟩|⟨-,ao,co,vs,rfl,Gy,Kf⟩
  ·rw[Hh.out] at ht;exact aN ht (by decide)
  ·have G3:=ae (aC G1.out aU)
   have xS:=G1.out.size;have JP:=aU.size;have Ml:=HF.out.out.lt;have TM:=HF.out.base;have yk:=ae (HK.out.grow G3.out);have fR:=ae (HF.out.out.kept aU (by simp));have yb:=ae (fun(j:Nat) g l hj hl=>(HF.out.gy j g l hj hl).kept aU (by simp));have qH:=ae Gy;have tH:=ae Kf;have jH:=ae HF.out.len;have CQ:Hid (kJ.Pairwise (· < ·)/\∀g∈kJ,w.heap.size<=g/\g<w3.heap.size):=⟨HF.out.AZ,fun g hg=>by
    have h1:=HF.out.aT g hg;obtain⟨i,hi⟩:=List.mem_iff_getElem?.1 hg;obtain⟨l,hl⟩:∃l,(D.run md ins)[i]?=some l:=⟨_,aS (by rw[<-HF.out.len];exact M.bP hi)⟩;have:=(HF.out.gy i g l hi hl).lt
    constructor<;>omega⟩
   clear sx aU p1 Gy Kf HK HF;have BB:∀g,(v1.ownBlock=some g\/v2.ownBlock=some g)->g<w.heap.size:=PF.out;have E5:Hid (v1.ownBlock≠some G/\v2.ownBlock≠some G/\∀g,(Value.slice ao md.aK.length co).ownBlock=some g->v1.ownBlock≠some g/\v2.ownBlock≠some g/\g≠G):=by
    refine⟨fun e=>by have:=BB G (.inl e);omega,fun e=>by have:=BB G (.inr e);omega,fun g hg=>?_⟩;have hl:=iL qH.out g hg;exact⟨fun e=>by have:=BB g (.inl e);omega,fun e=>by have:=BB g (.inr e);omega,by omega⟩
   clear BB;go_wp2;generalize hrs:D.run md ins=rs at *;have HRs:=ae hrs;clear hrs;go_loopw[12] (fun i wr=>∃(k:Nat) (u1 u2:Value) (hs:List Nat),Hid (k<=md.aK.length)/\i=.int .i64 k/\Hid (hs.length=k)/\Hid ((kJ++hs).Pairwise (· < ·)/\∀g∈kJ++hs,w.heap.size<=g/\g<wr.heap.size)/\Hid (Kp w wr b base vp v1 v2 va vn ve vr vt vm (.slice a9 n9 c9) u1 u2 (n1+k) (xs++(List.zipWith cT kJ rs).take k) (ys++List.zipWith cT hs (rs.take k)))/\Hid (aj wr G 33 (vf kJ rs k).toArray)/\Hid (∀(j:Nat) g l,kJ[j]?=some g->rs[j]?=some l->aj wr g 3 (l.map (Value.int .i64)).toArray)/\Hid (∀(j:Nat) g l,hs[j]?=some g->rs[j]?=some l->aj wr g 3 (l.map (Value.int .i64)).toArray)/\Hid (wr.ownsRow w2.heap.size 33 1 (.slice ao md.aK.length co) md.aK.length vs)/\Hid (sH wz wr vs rs md.aK.length)/\Hid (u1.ownBlock≠some G/\u2.ownBlock≠some G/\∀g,(Value.slice ao md.aK.length co).ownBlock=some g->u1.ownBlock≠some g/\u2.ownBlock≠some g/\g≠G)) (fun i _=>md.aK.length-(intOf i).toNat)
   case atStart=>exact⟨0,v1,v2,[],bK _,rfl,rfl,(by unfold Hid;simpa using CQ.out),(by unfold Hid;simpa using yk.out),(by unfold Hid;rw[at4];exact fR.out),yb.out,(fun j g l h=>aN h (by simp)),qH.out,tH.out,E5.out⟩
   case round=>
    clear yk fR yb qH tH E5 CQ;obtain⟨k,u1,u2,hs,Hk,rfl,GO,Ls,HK,bH,zV,Du,qH,tH,E5⟩:=hrel;have hk:=Hk.out;by_cases aJ:k<md.aK.length
    ·obtain⟨l,hx⟩:∃l,rs[k]?=some l:=⟨_,aS (by rw[my.out];exact aJ)⟩
     obtain⟨g,aF⟩:∃g,kJ[k]?=some g:=⟨_,aS (by rw[jH.out,my.out];exact aJ)⟩;have dG:wr.cell? ⟨G,k,none⟩=some (.slice (some ⟨g,0,none⟩) l.length l.length):=by rw[bH.out.cell k,nP,afB aF hx];rfl
     obtain⟨gB,ea,-,-,iU⟩:=nE qH.out (by omega);subst ea;obtain⟨v,hv⟩:∃v,vs[k]?=some v:=⟨_,aS (by rw[tH.out.lv];exact aJ)⟩;obtain⟨aL,cL,rfl,hW⟩:=tH.out.bN k v l hv hx;have dB:wr.cell? ⟨gB,k,none⟩=some (.slice aL l.length cL):=by rw[iU k (by omega),hv]
     have gzr:wz.grownBy wr none:=Fr.gr Hz.out.1 HK.out.F Hz.out.2;have oF:=OR.out l (bU hx);have Lt:Sl wr (.slice (some ⟨g,0,none⟩) l.length l.length) l:=(aZ.sO (base:=0) (bK _) rfl (by unfold maxLen;omega) (zV.out k g l aF hx)).sl;have HC:=ae (fun nd=>FU (some ⟨g,0,none⟩) aL l.length l.length l.length cL l l (wr.drewN nd) (Lt.Z (bE wr nd none)) ((hW.sl gzr).Z (bE wr nd none)) (by omega) (by omega));rw[show decide (l=l)=true from by simp] at HC;have Hx:=ae hx;have jK:=ae aF;clear hx aF iU hv hW gzr Lt;go_wp2_with fail;go_quiet(exact Calls.quiet_of (HC.out _));have gq:=bE wr nq none;have Pu:=gq.size;have dG1:=aG gq dG;have HKa:=ae (HK.out.grow gq);have rj:=ae (bH.out.kept gq (by simp));have Lu:=ae (fun(j:Nat) g l hj hl=>(zV.out j g l hj hl).kept gq (by simp));have Hha:=ae (fun(j:Nat) g l hj hl=>(Du.out j g l hj hl).kept gq (by simp));have afM:=ae (iF qH.out gq (by simp));have afN:=ae (tH.out.Z gq);clear dG dB HC gq HK bH zV Du qH tH;generalize wr.drewN nq=wa at *;go_wp2_with fail;go_quiet(fail);have gq:=bE wa nq none;have hsb:=gq.size;have dG:=aG gq dG1;have HK:=ae (HKa.out.grow gq);have bH:=ae (rj.out.kept gq (by simp));have zV:=ae (fun(j:Nat) g l hj hl=>(Lu.out j g l hj hl).kept gq (by simp));have Du:=ae (fun(j:Nat) g l hj hl=>(Hha.out j g l hj hl).kept gq (by simp));have qH:=ae (iF afM.out gq (by simp));have tH:=ae (afN.out.Z gq);clear dG1 gq HKa rj Lu Hha afM afN;generalize wa.drewN nq=wb at *;have Lt:Sl wb (.slice (some ⟨g,0,none⟩) l.length l.length) l:=(aZ.sO (base:=0) (bK _) rfl (by unfold maxLen;omega) (zV.out k g l jK.out Hx.out)).sl;have HC:=ae (HK.out.Bz zg (by omega) Lt (by omega));clear Lt;go_wp2_with fail;refine HC.out.mono ?_;rintro e wc⟨rfl,g1,c1,g2,c2,wZ,yu,p9,o1,o2⟩;have zU:=HK.out.zU;obtain⟨A1,A2,A3⟩:=E5.out;have auc:=bH.out.lt
     have hGw:w.heap.size<=G:=by omega
     have E6:=p9.gy bH.out (fun h=>by
      rcases h with h|h|h
      ·omega
      ·exact A1 h
      ·exact A2 h)
     have j5:=bD wc G k (.slice none 0 0);have fG:=E6.free k;have dGc:wc.cell? ⟨G,k,none⟩=some (.slice (some ⟨g,0,none⟩) l.length l.length):=by rw[E6.cell k,nP,afB jK.out Hx.out];rfl
     have U3:g1≠G:=fun e=>by
      subst e;rcases o1 with h|h
      ·exact A1 h
      ·omega
     have U4:g2≠G:=fun e=>by
      subst e;rcases o2 with h|h
      ·exact A2 h
      ·omega
     have zW:∀(x:Nat) (cs:Array Value),aj wc x 3 cs->aj (wc.setCell ⟨G,k,none⟩ (.slice none 0 0)) x 3 cs:=fun x cs h=>h.kept j5 (by intro e;injection e with e;subst e;exact aN (tT E6 h) (by decide));have U5:=ae (wZ.PE j5 (by omega) (fun e=>U3 (by have e1:some g1=some G:=e;injection e1)) (fun e=>U4 (by have e1:some g2=some G:=e;injection e1)) hGw);rw[j8,j8,show(Value.slice (some ⟨g,0,none⟩) l.length l.length)=cT g l from rfl,<-at7 jK.out Hx.out] at U5;have yg:Hid (List.zipWith cT (hs++[wb.heap.size]) (rs.take (k+1))=List.zipWith cT hs (rs.take k)++[cT wb.heap.size l]):=by
      unfold Hid;rw[H.kd Hx.out,SL (by rw[GO.out,xE];have:=M.bP Hx.out;omega)]
      rfl
     rw[<-yg.out] at U5;have ke:Hid (aj (wc.setCell ⟨G,k,none⟩ (.slice none 0 0)) G 33 (vf kJ rs (k+1)).toArray):=by
      have e:=E6.set k (.slice none 0 0);rw[Lm,show((vf kJ rs k).set k (.slice none 0 0))=vf kJ rs (k+1) from at5 jK.out Hx.out] at e;exact e
     have HFd:=ae (fun(j:Nat) g l hj hl=>zW _ _ (p9.gy (zV.out j g l hj hl) (fun h=>zU g h _ (zV.out j g l hj hl))));have Hhd:Hid (∀(j:Nat) g l,(hs++[wb.heap.size])[j]?=some g->rs[j]?=some l->aj (wc.setCell ⟨G,k,none⟩ (.slice none 0 0)) g 3 (l.map (Value.int .i64)).toArray):=fun j g l' hj fI=>by
      rcases cE j hs.length with h|h
      ·rw[qT h] at hj
       exact zW _ _ (p9.gy (Du.out j g l' hj fI) (fun h=>zU g h _ (Du.out j g l' hj fI)))
      ·have ej:j=k:=by have:=M.bP hj;simp[GO.out] at this;have:=GO.out;omega
       subst ej;rw[og h,GO.out,Nat.sub_self] at hj;simp at hj;subst hj;rw[Hx.out] at fI;injection fI with fI;subst fI;exact zW _ _ yu
     have auf:=ae (iF (p9.jI qH.out (fun x hx h=>by
      rcases h with h|h|h
      ·have:=iL qH.out x hx;omega
      ·exact(A3 x hx).1 h
      ·exact(A3 x hx).2.1 h)) j5 (fun x hx e=>by injection e with e;exact(A3 x hx).2.2 e))
     have aug:=ae ((tH.out.fr p9 zU).fr (Fr.uI j5) (fun x hx cs h=>by injection hx with hx;subst hx;exact aN (tT E6 h) (by decide)));have auh:Hid ((Value.slice (some ⟨g1,0,none⟩) (n1+k+1) c1).ownBlock≠some G/\(Value.slice (some ⟨g2,0,none⟩) (n1+k+1) c2).ownBlock≠some G/\∀g,(Value.slice (some ⟨gB,0,none⟩) md.aK.length co).ownBlock=some g->(Value.slice (some ⟨g1,0,none⟩) (n1+k+1) c1).ownBlock≠some g/\(Value.slice (some ⟨g2,0,none⟩) (n1+k+1) c2).ownBlock≠some g/\g≠G):=by
      refine⟨fun e=>U3 (by have e1:some g1=some G:=e;injection e1),fun e=>U4 (by have e1:some g2=some G:=e;injection e1),fun x hx=>?_⟩;have uH:=(iL qH.out x hx).2;refine⟨fun e=>?_,fun e=>?_,(A3 x hx).2.2⟩
      ·have e1:some g1=some x:=e
       injection e1 with e1;subst e1;rcases o1 with h|h
       ·exact(A3 g1 hx).1 h
       ·omega
      ·have e1:some g2=some x:=e
       injection e1 with e1;subst e1;rcases o2 with h|h
       ·exact(A3 g2 hx).2.1 h
       ·omega
     have aui:Hid ((kJ++(hs++[wb.heap.size])).Pairwise (· < ·)/\∀g∈kJ++(hs++[wb.heap.size]),w.heap.size<=g/\g<(wc.setCell ⟨G,k,none⟩ (.slice none 0 0)).heap.size):=by
      have dh:=yu.lt;have OB:=p9.size;have qR:=HK.out.F.size;unfold Hid;rw[<-j8,yC];refine⟨List.pairwise_append.2 ⟨Ls.out.1,List.pairwise_singleton _ _,fun x hx y hy=>?_⟩,fun g hg=>?_⟩
      ·have:=Ls.out.2 x hx
       simp at hy;omega
      ·rcases List.mem_append.1 hg with h|h
       ·have:=Ls.out.2 g h
        constructor<;>omega
       ·simp at h
        constructor<;>omega
     have auj:Hid ((hs++[wb.heap.size]).length=k+1):=by unfold Hid;simp[GO.out]
     have ay4:=E6.lt;clear Pu hsb wZ yu p9 o1 o2 zU A1 A2 A3 j5 U3 U4 zW HK bH zV Du qH tH E5 HC dG auc hGw;clear E6;go_wp2;go_roundw
     case rel=>exact⟨k+1,_,_,hs++[wb.heap.size],(show k+1<=_ by omega),by go_num,auj,aui,U5,ke,HFd,Hhd,auf,aug,auh⟩
     case measure=>simp[intOf];omega
    ·obtain rfl:k=md.aK.length:=by omega
     have hF:=HK.out.F;have hEr:=hF.jI HE.out.1 (fun g hg h=>by
      have:=Er.out.1 g hg;rcases h with h|h|h
      ·exact this.1 h
      ·exact this.2.1 h
      ·exact this.2.2 h)
     have U6:=ae hEr;have HEb:=ae (fun p hp=>hF.gy (HE.out.2 p hp).2 (fun h=>by
      have:=Er.out.2 p hp;rcases h with h|h|h
      ·exact this.1 h
      ·exact this.2.1 h
      ·exact this.2.2 h))
     have U2:wr.cell? ⟨b,9,none⟩=some (.slice a9 n9 c9):=HK.out.L.cell 9;have hsr:=hF.size;have ol:=fun g hg=>(iL HE.out.1 g hg).2;have SU:=ae ol;clear hF hEr ol;go_wp2_with(at_builtin;refine wpList_append_lies _ rfl _ _ 29 rfl base 25 i0 (.slice none 0 0) 1 24 underlying29 mB cP cQ cZ rfl (by decide) _ _ _ rfl (lB U6.out _) ⟨wr.heap.size,0,none⟩ 1 1 [.slice (some ⟨G,0,none⟩) md.aK.length md.aK.length] rfl rfl ?c1 ?c2 ?c3 ?c4 ?c5 ?c6 (wr.heap.size+1) ?c7 ?_)
     case c1=>exact kb wr 25 #[.slice (some ⟨G,0,none⟩) md.aK.length md.aK.length]
     case c2=>intro u hu;simp at hu;subst hu;rfl
     case c3=>decide
     case c4=>unfold maxLen;omega
     case c5=>omega
     case c6=>simp;omega
     case c7=>simp
     intro g9 GP wc cB cR jr adl;have bq:wr.grownBy wc (Value.slice a9 n9 c9).ownBlock:=aC (aQ _ _ _) cR;have U7:g9≠b:=by
      rcases jr with h|h
      ·exact(Er.out.1 g9 h).1
      ·omega
     have Lv:LW wc b vp u1 u2 va vn ve vr vt vm (.slice a9 n9 c9):=HK.out.L.kept bq (fun e=>(Er.out.1 b e.symm).1 rfl);have j5:=bD wc b 9 (.slice (some ⟨g9,0,none⟩) (gs.length+1) GP);have f9:=Lv.free 9;have d9:wc.cell? ⟨b,9,none⟩=some (.slice a9 n9 c9):=Lv.cell 9;have Bz:∀(x:Nat) (T:TypeId) (cs:Array Value),aj wr x T cs->T≠25->x≠b->aj (wc.setCell ⟨b,9,none⟩ (.slice (some ⟨g9,0,none⟩) (gs.length+1) GP)) x T cs:=fun x T cs h hT hx=>(h.kept bq (fun e=>kW U6.out h (Ne.symm hT) e.symm)).kept j5 (by intro e;injection e with e;exact hx e);have U8:∀(v:Value) (k:Nat) (zs:List Value),wr.ownsRow base 33 1 v k zs->v.ownBlock≠some b->(wc.setCell ⟨b,9,none⟩ (.slice (some ⟨g9,0,none⟩) (gs.length+1) GP)).ownsRow base 33 1 v k zs:=fun v k zs h hv=>iF (iF h bq (fun g hg e=>qG h U6.out (by decide) g hg e.symm)) j5 (fun g hg e=>by injection e with e;subst e;exact hv hg);have Va:∀(x:Nat) (cs:Array Value),aj wr x 3 cs->x≠b:=fun x cs h e=>by subst e;exact aN (tT HK.out.L h) (by decide)
     have k1:=U8 u1 _ _ HK.out.k1 HK.out.b1;have k2:=U8 u2 _ _ HK.out.k2 HK.out.b2;rw[BF (by rw[aa8,my.out];omega)] at k1;rw[BF (by rw[my.out];exact bj _)] at k2;have Vb:=Bz G _ _ bH.out (by decide) (by omega);rw[<-my.out,at6 jH.out,my.out] at Vb;have HR:Hid (Rdn w (wc.setCell ⟨b,9,none⟩ (.slice (some ⟨g9,0,none⟩) (gs.length+1) GP)) b base vp v1 v2 va vn ve vr vt vm (.slice a9 n9 c9) u1 u2 gs n1 md.aK.length xs ys rs g9 GP G kJ hs):=
      {L:=Lv.set 9 _
       k1:=k1
       k2:=k2
       b1:=HK.out.b1
       b2:=HK.out.b2
       tD:=HK.out.tD
       o1:=HK.out.o1
       o2:=HK.out.o2
       l1:=by rw[jH.out,my.out]
       l2:=GO.out
       so:=Ls.out.1
       ab:=fun g hg=>(Ls.out.2 g hg).1
       f1:=fun j g l hj hl=>Bz g _ _ (zV.out j g l hj hl) (by decide) (Va g _ (zV.out j g l hj hl))
       f2:=fun j g l hj hl=>Bz g _ _ (Du.out j g l hj hl) (by decide) (Va g _ (Du.out j g l hj hl))
       E:=⟨by
        have e:=iF cB j5 (fun g hg e=>by have h1:some g9=some g:=hg;injection h1 with h1;injection e with e;exact U7 (h1.trans e))
        simpa using e,fun p hp=>by
        rcases List.mem_append.1 hp with hp|hp
        ·exact⟨(HE.out.2 p hp).1,Bz p.1 _ _ (HEb.out p hp) (by decide) (Er.out.2 p hp).1⟩
        ·simp at hp;subst hp;exact⟨by show md.aK.length<=1000;omega,Vb⟩⟩
       bA:=⟨by omega,E5.out.1,E5.out.2.1⟩
       o9:=⟨jr.imp id (fun h=>by omega),U7⟩
       F:=((HK.out.F.mono (fun k _ h=>by
        rcases h with h|h|h
        ·exact .inl h
        ·exact .inr (.inl h)
        ·exact .inr (.inr (.inl h)))).iK bq (fun g hg=>.inr (.inr (.inr (.inr hg))))).iK j5 (fun g hg=>.inr (.inl (by injection hg with hg;exact hg.symm)))}
     have Vc:=Lv.lt;clear cB cR jr adl bq U7 Lv j5 Bz U8 Va k1 k2 Vb;go_wp2;go_ret;exact⟨rfl,u1,u2,g9,GP,G,kJ,hs,by rw[HRs.out];exact HR.out⟩
theorem aul{gs hs:List Nat}{g h n:Nat}(h0:(gs++hs).Nodup)(aJ:∀x∈gs++hs,x<n)(hg:n<=g)(hh:g<h):((gs++[g])++(hs++[h])).Nodup:=by
 have l1:∀x∈gs,x<n:=fun x hx=>aJ x (List.mem_append_left _ hx);have l2:∀x∈hs,x<n:=fun x hx=>aJ x (List.mem_append_right _ hx);obtain⟨a,c,d⟩:=List.nodup_append.1 h0;refine List.nodup_append.2 ⟨List.nodup_append.2 ⟨a,by simp,fun x hx y hy=>?_⟩,List.nodup_append.2 ⟨c,by simp,fun x hx y hy=>?_⟩,fun x hx y hy=>?_⟩
 ·have:=l1 x hx
  simp at hy;omega
 ·have:=l2 x hx
  simp at hy;omega
 ·rcases List.mem_append.1 hx with hx|hx
  ·have dg:=l1 x hx
   rcases List.mem_append.1 hy with hy|hy
   ·exact d x hx y hy
   ·simp at hy
    omega
  ·simp at hx
   rcases List.mem_append.1 hy with hy|hy
   ·have:=l2 y hy
    omega
   ·simp at hy
    omega
theorem Fr.cell{S:Nat->Prop}{w w':World}{b i:Nat}{v:Value}{T:TypeId}{cs:Array Value}(h:Fr S w w')(hB:aj w b T cs)(hS:¬S b)(hc:cs[i]?=some v):w'.cell? ⟨b,i,none⟩=some v:=by
 rw[(h.gy hB hS).cell i,hc]
theorem Kp.afR{w wr:World}{b base n:Nat}{vp v1 v2 va vn ve vr vt vm vo u1 u2:Value}{xs ys:List Value}(h:Kp w wr b base vp v1 v2 va vn ve vr vt vm vo u1 u2 n xs ys)(v:Value):Kp w (wr.setCell ⟨b,6,none⟩ v) b base vp v1 v2 va vn ve v vt vm vo u1 u2 n xs ys:=
 ⟨h.L.set 6 v,iF h.k1 (bD wr b 6 v) (fun g hg e=>by injection e with e;subst e;exact h.b1 hg),iF h.k2 (bD wr b 6 v) (fun g hg e=>by injection e with e;subst e;exact h.b2 hg),h.b1,h.b2,h.tD,h.o1,h.o2,h.F.iK (bD wr b 6 v) (fun g hg=>.inr (.inl (by injection hg with hg;exact hg.symm)))⟩
theorem Kp.app{w wr mE:World}{b base n:Nat}{vp v1 v2 va vn ve vr vt vm vo u1 u2 v:Value}{xs ys:List Value}(h:Kp w wr b base vp v1 v2 va vn ve vr vt vm vo u1 u2 n xs ys)(hg:wr.grownBy mE v.ownBlock)(hv:∀g,v.ownBlock=some g->w.heap.size<=g/\g≠b/\u1.ownBlock≠some g/\u2.ownBlock≠some g):Kp w mE b base vp v1 v2 va vn ve vr vt vm vo u1 u2 n xs ys:=by
 rcases e:v.ownBlock with _|g
 ·rw[e] at hg;exact h.grow hg
 ·rw[e] at hg
  obtain⟨a1,a2,a3,a4⟩:=hv g e;exact h.PE hg a2 a3 a4 a1
theorem Kp.Te{w wr:World}{b base n:Nat}{vp v1 v2 va vn ve vr vt vm vo u1 u2:Value}{xs ys:List Value}(h:Kp w wr b base vp v1 v2 va vn ve vr vt vm vo u1 u2 n xs ys):Kp wr wr b base vp u1 u2 va vn ve vr vt vm vo u1 u2 n xs ys:=
 ⟨h.L,h.k1,h.k2,h.b1,h.b2,h.tD,fun _ e=>.inl e,fun _ e=>.inl e,Fr.refl _ _⟩
theorem Kp.iK{w w1 wr:World}{b base n:Nat}{vp v1 v2 va vn ve vr vt vm vo u1 u2:Value}{xs ys:List Value}(hF:Fr (fun k=>k=b\/v1.ownBlock=some k\/v2.ownBlock=some k) w w1)(h:Kp w1 wr b base vp v1 v2 va vn ve vr vt vm vo u1 u2 n xs ys):Kp w wr b base vp v1 v2 va vn ve vr vt vm vo u1 u2 n xs ys:=
 ⟨h.L,h.k1,h.k2,h.b1,h.b2,h.tD,fun g e=>(h.o1 g e).imp id (fun h'=>jN hF.size h'),fun g e=>(h.o2 g e).imp id (fun h'=>jN hF.size h'),hF.trans h.F⟩
structure vg(w w':World)(b base:Nat)(vp v1 v2 va vn ve vr vt vm vo u1 u2:Value)(n1 m:Nat)(xs ys:List Value)(rs:List (List Int))(gs hs:List Nat):Prop where
 K:Kp w w' b base vp v1 v2 va vn ve vr vt vm vo u1 u2 (n1+m) (xs++List.zipWith cT gs rs) (ys++List.zipWith cT hs rs)
 l0:rs.length=m
 l1:gs.length=m
 l2:hs.length=m
 nd:(gs++hs).Nodup
 ab:∀g∈gs++hs,w.heap.size<=g/\g<w'.heap.size
 f1:∀(j:Nat) g l,gs[j]?=some g->rs[j]?=some l->aj w' g 3 (l.map (Value.int .i64)).toArray
 f2:∀(j:Nat) g l,hs[j]?=some g->rs[j]?=some l->aj w' g 3 (l.map (Value.int .i64)).toArray
 R:w'.ownsRow w.heap.size 33 1 vr m (List.zipWith cT gs rs)
 sh:∀l∈rs,l.length<=512
 rb:∀g,vr.ownBlock=some g->g≠b/\u1.ownBlock≠some g/\u2.ownBlock≠some g
theorem vg.nil{w:World}{b base n1:Nat}{vp v1 v2 va vn ve vt vm vo:Value}{xs ys:List Value}(h:Kp w w b base vp v1 v2 va vn ve (.slice none 0 0) vt vm vo v1 v2 n1 xs ys):vg w w b base vp v1 v2 va vn ve (.slice none 0 0) vt vm vo v1 v2 n1 0 xs ys [] [] []:=
 ⟨by simpa using h,rfl,rfl,rfl,by simp,by simp,by simp,by simp,by simpa using ki _ _ _ _,by simp,fun g e=>by cases e⟩
theorem vg.grow{w w1 w2:World}{b base n1 m:Nat}{vp v1 v2 va vn ve vr vt vm vo u1 u2:Value}{xs ys:List Value}{rs:List (List Int)}{gs hs:List Nat}(h:vg w w1 b base vp v1 v2 va vn ve vr vt vm vo u1 u2 n1 m xs ys rs gs hs)(hg:w1.grownBy w2 none):vg w w2 b base vp v1 v2 va vn ve vr vt vm vo u1 u2 n1 m xs ys rs gs hs:=
 ⟨h.K.grow hg,h.l0,h.l1,h.l2,h.nd,fun g hx=>⟨(h.ab g hx).1,qN (h.ab g hx).2 hg.size⟩,fun j g l a c=>(h.f1 j g l a c).kept hg (by simp),fun j g l a c=>(h.f2 j g l a c).kept hg (by simp),iF h.R hg (by simp),h.sh,h.rb⟩
theorem PG{gs:List Nat}{rs:List (List Int)}(h:gs.length=rs.length)(g:Nat)(l:List Int):List.zipWith cT (gs++[g]) (rs++[l])=List.zipWith cT gs rs++[cT g l]:=by
 rw[SL h];rfl
theorem afS{α β:Type}{xs:List α}{ys:List β}{P:α->β->Prop}(h:xs.length=ys.length)(hP:∀(j:Nat) x y,xs[j]?=some x->ys[j]?=some y->P x y){a:α}{c:β}(Uu:P a c):∀(j:Nat) x y,(xs++[a])[j]?=some x->(ys++[c])[j]?=some y->P x y:=fun j x y hx hy=>by
 rcases cE j xs.length with hj|hj
 ·rw[qT hj] at hx
  rw[qT (by omega)] at hy;exact hP j x y hx hy
 ·rw[og hj] at hx
  rw[og (by omega),<-h] at hy;have e:j-xs.length=0:=by have:=M.bP hx;simp at this;omega
  rw[e] at hx hy;simp at hx hy;subst hx hy;exact Uu
theorem vg.py{w w' wc wd:World}{b base n1 k g0 g1 Vd g2 Ve gr cr:Nat}{vp v1 v2 va vn ve vr vt vm vo u1 u2:Value}{xs ys:List Value}{rs:List (List Int)}{gs hs:List Nat}{l:List Int}
  (h:vg w w' b base vp v1 v2 va vn ve vr vt vm vo u1 u2 n1 k xs ys rs gs hs) (hBl:aj w' g0 3 (l.map (Value.int .i64)).toArray)
  (wZ:Kp w wc b base vp v1 v2 va vn ve vr vt vm vo (.slice (some ⟨g1,0,none⟩) (n1+k+1) Vd) (.slice (some ⟨g2,0,none⟩) (n1+k+1) Ve) (n1+k+1) (xs++List.zipWith cT gs rs++[.slice (some ⟨g0,0,none⟩) l.length l.length]) (ys++List.zipWith cT hs rs++[cT w'.heap.size l]))
  (yu:aj wc w'.heap.size 3 (l.map (Value.int .i64)).toArray) (p9:Fr (fun k=>k=b\/u1.ownBlock=some k\/u2.ownBlock=some k) w' wc) (o1:u1.ownBlock=some g1\/w'.heap.size<g1) (o2:u2.ownBlock=some g2\/w'.heap.size<g2)
  (cB:wd.ownsRow w.heap.size 33 1 (.slice (some ⟨gr,0,none⟩) (k+1) cr) (k+1) (List.zipWith cT gs rs++[.slice (some ⟨g0,0,none⟩) l.length l.length])) (bq:wc.grownBy wd vr.ownBlock) (jr:vr.ownBlock=some gr\/gr=wc.heap.size+1)
  (aun:w.heap.size<=g0) (vh:∀g∈gs++hs,g<g0) (iX:l.length<=512):
  vg w (wd.setCell ⟨b,6,none⟩ (.slice (some ⟨gr,0,none⟩) (k+1) cr)) b base vp v1 v2 va vn ve (.slice (some ⟨gr,0,none⟩) (k+1) cr) vt vm vo (.slice (some ⟨g1,0,none⟩) (n1+k+1) Vd) (.slice (some ⟨g2,0,none⟩) (n1+k+1) Ve) n1 (k+1) xs ys (rs++[l]) (gs++[g0]) (hs++[w'.heap.size]):=by
 have xm:=hBl.lt;have rS:=h.K.F.size;have IJ:=p9.size;have hwd:=bq.size;have zU:=h.K.zU;have hRc:=p9.jI h.R (fun g hg hx=>by
  have:=h.rb g hg;rcases hx with hx|hx|hx
  ·exact this.1 hx
  ·exact this.2.1 hx
  ·exact this.2.2 hx)
 have lv:∀g,vr.ownBlock=some g->w.heap.size<=g/\g<w'.heap.size:=fun g hg=>iL h.R g hg;have l1:=(iL wZ.k1 g1 rfl).2;have l2:=(iL wZ.k2 g2 rfl).2;have Vf:∀g,vr.ownBlock=some g->g≠g1/\g≠g2:=fun g hg=>by
  have r:=h.rb g hg;have:=(lv g hg).2;refine⟨fun e=>?_,fun e=>?_⟩
  ·subst e
   rcases o1 with h' |h'
   ·exact r.2.1 h'
   ·omega
  ·subst e
   rcases o2 with h' |h'
   ·exact r.2.2 h'
   ·omega
 have hKd:=wZ.app bq (fun g hg=>⟨(lv g hg).1,(h.rb g hg).1,fun e=>(Vf g hg).1 (by have e1:some g1=some g:=e;injection e1 with e1;exact e1.symm),fun e=>(Vf g hg).2 (by have e1:some g2=some g:=e;injection e1 with e1;exact e1.symm)⟩);have GQ:gr≠b/\gr≠g1/\gr≠g2:=by
  rcases jr with e|e
  ·exact⟨(h.rb gr e).1,Vf gr e⟩
  ·have:=wZ.L.lt
   omega
 have j5:=bD wd b 6 (.slice (some ⟨gr,0,none⟩) (k+1) cr);have zW:∀(x:Nat) (cs:Array Value),aj wc x 3 cs->aj (wd.setCell ⟨b,6,none⟩ (.slice (some ⟨gr,0,none⟩) (k+1) cr)) x 3 cs:=fun x cs hx=>(hx.kept bq (fun e=>kW hRc hx (by decide) e.symm)).kept j5 (by intro e;injection e with e;subst e;exact aN (tT wZ.L hx) (by decide));have Vg:∀(x:Nat) (cs:Array Value),aj w' x 3 cs->aj (wd.setCell ⟨b,6,none⟩ (.slice (some ⟨gr,0,none⟩) (k+1) cr)) x 3 cs:=fun x cs hx=>zW x cs (p9.gy hx (fun hs=>zU x hs cs hx));have Vh:gs.length=rs.length:=by rw[h.l1,h.l0]
 have el2:hs.length=rs.length:=by rw[h.l2,h.l0]
 have hK:=hKd.afR (.slice (some ⟨gr,0,none⟩) (k+1) cr);rw[j8,j8] at hK;refine⟨?_,by simp[h.l0],by simp[h.l1],by simp[h.l2],aul h.nd vh (bj _) (by omega),fun g hg=>?_,afS Vh (fun j g l a c=>Vg _ _ (h.f1 j g l a c)) (Vg _ _ hBl),afS el2 (fun j g l a c=>Vg _ _ (h.f2 j g l a c)) (zW _ _ yu),?_,fun x hx=>?_,fun g hg=>?_⟩
 ·rw[PG Vh,PG el2];exact hK
 ·rw[yC]
  have cY:g∈gs++hs\/g=g0\/g=w'.heap.size:=by
   simp only[Ax,XI] at hg ⊢;rcases hg with(hg|hg)|(hg|hg)
   ·exact .inl (.inl hg)
   ·exact .inr (.inl hg)
   ·exact .inl (.inr hg)
   ·exact .inr (.inr hg)
  have:=yu.lt;rcases cY with cY|cY|cY
  ·have:=h.ab g cY
   constructor<;>omega
  ·constructor<;>omega
  ·constructor<;>omega
 ·rw[PG Vh]
  exact iF cB j5 (fun g hg e=>by have e1:some gr=some g:=hg;injection e1 with e1;injection e with e;exact GQ.1 (e1.trans e))
 ·rcases List.mem_append.1 hx with hx|hx
  ·exact h.sh x hx
  ·simp at hx;subst hx;exact iX
 ·have e1:some gr=some g:=hg
  injection e1 with e1;subst e1;exact⟨GQ.1,fun e=>GQ.2.1 (by have e1:some g1=some gr:=e;injection e1 with e1;exact e1.symm),fun e=>GQ.2.2 (by have e1:some g2=some gr:=e;injection e1 with e1;exact e1.symm)⟩
end Go.Proofs.YtcnhfffgbamonaaGreat
