import Derived.Test.YtcnhfffgbamonabGreatZ42
set_option maxRecDepth 100000
set_option maxHeartbeats 6400000
namespace Go.Proofs.YtcnhfffgbamonabGreat
open Go.Proofs.Tryz
open Go.RowKit
theorem Ps{α:Type}{l:List α}{j:Nat}{a:α}(h:l[j]?=some a):l.set j a=l:=by
 apply nF
 intro i;rw[oe];by_cases e:j=i
 ·subst e
  rw[ay rfl,ay (M.bP h),h]
 ·rw[ak e]
theorem St.Vm{wz w w':World}{b k:Nat}{c:Ct}(h:St wz w b k c){va vn ve vr:Value}{rg:List Value}
  (hF:Fr (fun g=>g=b\/c.vr.ownBlock=some g) w w') (hL:LW w' b c.vp c.v1 c.v2 va vn ve vr c.vt (.int .i64 c.mark) c.vo)
  (kr:w'.ownsRow wz.heap.size 32 1 vr rg.length rg) (qy:∀u∈rg,Wn c.ls u) (Le:∀g,vr.ownBlock=some g->c.vr.ownBlock=some g\/w.heap.size<=g)
  (ia:wP va) (ie:wP vn) (ix:wP ve) (nr:rg.length<=300*(k+1)) :
  St wz w' b (k+1) { c with va:=va,vn:=vn,ve:=ve,vr:=vr,rg:=rg }:=by
 have hF':Fr (fun g=>g=b\/c.v1.ownBlock=some g\/c.v2.ownBlock=some g\/c.vr.ownBlock=some g\/c.vo.ownBlock=some g) w w':=hF.mono (fun g _ hg=>hg.imp id (fun e=>.inr (.inr (.inl e))));have l1:∀g,c.v1.ownBlock=some g->g<w.heap.size:=fun g hg=>(jd h.k1 g hg).2;have l2:∀g,c.v2.ownBlock=some g->g<w.heap.size:=fun g hg=>(jd h.k2 g hg).2;have hv:∀g,c.de b g->g=b\/c.vr.ownBlock=some g->g=b\/c.vr.ownBlock=some g:=fun _ _ e=>e;have e:=h.Pr (u1:=c.v1) (u2:=c.v2) (va:=va) (vn:=vn) (ve:=ve) (vr:=vr) (vo:=c.vo) (nk:=[]) (rg:=rg) (os:=c.os) hF' hL
  (by simpa using hF.jO h.k1 (fun g hg hx=>hx.elim (fun e=>h.b1 (by rw[<-e];exact hg)) (fun e=>h.q8 g hg e)))
  (by simpa using hF.jO h.k2 (fun g hg hx=>hx.elim (fun e=>h.b2 (by rw[<-e];exact hg)) (fun e=>h.re g hg e)))
  kr ⟨hF.jO h.E.1 (fun g hg hx=>hx.elim (fun e=>h.bo (by rw[<-e];exact hg)) (fun e=>qw h.E.1 h.kr (by decide) g hg e)),fun p hp=>⟨(h.E.2 p hp).1,hF.gF (h.E.2 p hp).2 (fun hx=>h.tK p hp (hx.elim .inl (fun e=>.inr (.inr (.inr (.inr (.inl e)))))))⟩⟩
  (fun x hx=>by cases hx) (by simp) (by simp) (fun u hu=>(qy u hu).mono) (fun g hg=>.inl hg) (fun g hg=>.inl hg) Le (fun g hg=>.inl hg) h.bR
  (fun g hg hx=>by
   rcases Le g hx with e|e
   ·exact h.q8 g hg e
   ·have:=l1 g hg;omega)
  (fun g hg hx=>by
   rcases Le g hx with e|e
   ·exact h.re g hg e
   ·have:=l2 g hg;omega)
  (fun p hp=>.inl hp) ia ie ix (by simp) nr (by have:=h.no;omega)
 simpa using e
theorem St.O7{wz w:World}{b k:Nat}{c:Ct}(h:St wz w b k c){j i:Nat}{x:Kl}(hx:c.ls[j]?=some x)(_hi:i<x.l.length)(v:Int) :
  St wz ((w.setCell ⟨x.g,i,none⟩ (.int .i64 v)).setCell ⟨x.h,i,none⟩ (.int .i64 v)) b (k+1) { c with ls:=c.ls.set j ⟨x.g,x.h,x.l.set i v⟩ }:=by
 have hj:=M.bP hx;have AF:=bV hx;have g1:=bD w x.g i (.int .i64 v);have g2:=bD (w.setCell ⟨x.g,i,none⟩ (.int .i64 v)) x.h i (.int .i64 v);obtain⟨w',rJ⟩:∃w',w'=(w.setCell ⟨x.g,i,none⟩ (.int .i64 v)).setCell ⟨x.h,i,none⟩ (.int .i64 v):=⟨_,rfl⟩;have hF:Fr (fun g=>g=x.g\/g=x.h) w w':=by
  rw[rJ];exact((Fr.refl _ w).iI g1 (fun g e=>.inr (.inl (by injection e with e;exact e.symm)))).iI g2 (fun g e=>.inr (.inr (by injection e with e;exact e.symm)))
 have xG:x.g∈c.cb:=List.mem_append_left _ (List.mem_map.2 ⟨x,AF,rfl⟩);have hhm:x.h∈c.cb:=List.mem_append_right _ (List.mem_map.2 ⟨x,AF,rfl⟩);have hS:∀g,(g=x.g\/g=x.h)->c.de b g:=fun g hg=>by
  rcases hg with rfl|rfl
  ·exact ER xG
  ·exact ER hhm
 obtain⟨B1,B2,jB⟩:=h.li x AF;have oG:∀{T:TypeId} {u:Value} {n t base:Nat} {xs:List Value},w.ownsRow base T t u n xs->T≠3->∀g,u.ownBlock=some g->¬(g=x.g\/g=x.h):=fun ho n3 g hg hx=>by
  rcases hx with rfl|rfl
  ·exact lD ho B1 n3 hg
  ·exact lD ho B2 n3 hg
 obtain⟨JQ,Ob,Lh⟩:=List.nodup_append.1 h.nd;have hgh:x.g≠x.h:=Lh x.g (List.mem_map.2 ⟨x,AF,rfl⟩) x.h (List.mem_map.2 ⟨x,AF,rfl⟩);have e1:(c.ls.set j ⟨x.g,x.h,x.l.set i v⟩).map (fun x=>dg x.g x.l)=c.ls.map (fun x=>dg x.g x.l):=by
  rw[List.map_set];refine Ps ?_;rw[dY,hx];simp[dg]
 have e2:(c.ls.set j ⟨x.g,x.h,x.l.set i v⟩).map (fun x=>dg x.h x.l)=c.ls.map (fun x=>dg x.h x.l):=by
  rw[List.map_set];refine Ps ?_;rw[dY,hx];simp[dg]
 have e3:(c.ls.set j ⟨x.g,x.h,x.l.set i v⟩).map (·.g)=c.ls.map (·.g):=by
  rw[List.map_set];refine Ps ?_;rw[dY,hx]
  rfl
 have e4:(c.ls.set j ⟨x.g,x.h,x.l.set i v⟩).map (·.h)=c.ls.map (·.h):=by
  rw[List.map_set];refine Ps ?_;rw[dY,hx]
  rfl
 obtain⟨c',bE⟩:∃c',c'=({ c with ls:=c.ls.set j ⟨x.g,x.h,x.l.set i v⟩ }:Ct):=⟨_,rfl⟩;have Vn:c'.cb=c.cb:=by subst bE;unfold Ct.cb;simp only;rw[e3,e4]
 have Vo:∀g,c'.de b g↔c.de b g:=fun g=>by
  unfold Ct.de;rw[Vn];subst bE;exact Iff.rfl
 have Lg:∀y∈c'.ls,aj w' y.g 3 (y.l.map (Value.int .i64)).toArray/\aj w' y.h 3 (y.l.map (Value.int .i64)).toArray/\y.l.length<=1000000000:=fun y hy=>by
  have FA:y∈c.ls.set j ⟨x.g,x.h,x.l.set i v⟩:=by subst bE;exact hy
  obtain⟨m,hm⟩:=List.mem_iff_getElem?.1 FA;rw[oe] at hm;by_cases em:j=m
  ·rw[ay em,ay (by omega)] at hm
   injection hm with hm;subst hm;refine⟨?_,?_,by rw[kG];exact jB⟩
   ·have a1:=(B1.set i (.int .i64 v)).kept g2 (by intro e;injection e with e;exact hgh e)
    rw[KN,<-List.map_set] at a1;rw[rJ];exact a1
   ·have a1:=(B2.kept g1 (by intro e;injection e with e;exact hgh e.symm)).set i (.int .i64 v)
    rw[KN,<-List.map_set] at a1;rw[rJ];exact a1
  ·rw[ak em] at hm
   have Vp:=bV hm;obtain⟨a1,a2,a3⟩:=h.li y Vp;have n1:y.g≠x.g:=fun e=>em (by
    have h1:(c.ls.map (·.g))[j]?=some x.g:=by rw[dY,hx];rfl
    have h2:(c.ls.map (·.g))[m]?=some x.g:=by rw[dY,hm,<-e];rfl
    exact(List.getElem?_inj (by rw[jh];exact hj) JQ).1 (h1.trans h2.symm))
   have n2:y.h≠x.h:=fun e=>em (by
    have h1:(c.ls.map (·.h))[j]?=some x.h:=by rw[dY,hx];rfl
    have h2:(c.ls.map (·.h))[m]?=some x.h:=by rw[dY,hm,<-e];rfl
    exact(List.getElem?_inj (by rw[jh];exact hj) Ob).1 (h1.trans h2.symm))
   have n3:y.g≠x.h:=Lh _ (List.mem_map.2 ⟨y,Vp,rfl⟩) _ (List.mem_map.2 ⟨x,AF,rfl⟩);have n4:x.g≠y.h:=Lh _ (List.mem_map.2 ⟨x,AF,rfl⟩) _ (List.mem_map.2 ⟨y,Vp,rfl⟩);exact⟨hF.gF a1 (fun hx=>hx.elim n1 n3),hF.gF a2 (fun hx=>hx.elim (fun e=>n4 e.symm) n2),a3⟩
 rw[<-bE,<-rJ];exact
  {gz:=h.gr hF hS
   zb:=h.zb
   L:=by
    subst bE;exact hF.gF h.L (fun hx=>by
     rcases hx with hx|hx
     ·exact aN (uR h.L (show aj w b 3 _ by rw[hx];exact B1)) (by decide)
     ·exact aN (uR h.L (show aj w b 3 _ by rw[hx];exact B2)) (by decide))
   kp:=by subst bE;exact hF.jO h.kp (oG h.kp (by decide))
   k1:=by subst bE;simp only;rw[e1,kG];exact hF.jO h.k1 (oG h.k1 (by decide))
   k2:=by subst bE;simp only;rw[e2,kG];exact hF.jO h.k2 (oG h.k2 (by decide))
   kr:=by subst bE;exact hF.jO h.kr (oG h.kr (by decide))
   T:=by subst bE;exact h.ts hF hS (oG h.T.1 (by decide))
   E:=by subst bE;exact h.em hF hS (oG h.E.1 (by decide))
   pl:=by subst bE;exact h.ED hF hS
   li:=Lg
   nd:=by rw[Vn];exact h.nd
   zl:=by rw[Vn];exact h.zl
   qy:=fun u hu=>by
    have uh:u∈c.rg:=by subst bE;exact hu
    rcases h.qy u uh with e|⟨y,hy,i',n,cp,eu,dd⟩
    ·exact .inl e
    ·obtain⟨m,hm⟩:=List.mem_iff_getElem?.1 hy
     have Fj:=M.bP hm;by_cases em:j=m
     ·subst em
      rw[hx] at hm;injection hm with hm;subst hm;refine .inr ⟨⟨x.g,x.h,x.l.set i v⟩,?_,i',n,cp,eu,by rw[kG];exact dd⟩;subst bE;exact List.mem_iff_getElem?.2 ⟨j,by rw[oe,ay rfl,ay hj]⟩
     ·refine .inr ⟨y,?_,i',n,cp,eu,dd⟩
      subst bE;exact List.mem_iff_getElem?.2 ⟨m,by rw[oe,ak em];exact hm⟩
   yd:=fun p hp g hg=>h.yd p (by subst bE;exact hp) g ((Vo g).1 hg)
   uW:=fun t ht g hg hh=>h.uW t (by subst bE;exact ht) g hg ((Vo g).1 hh)
   tK:=fun p hp hh=>h.tK p (by subst bE;exact hp) ((Vo _).1 hh)
   bR:=by subst bE;exact h.bR
   q8:=by subst bE;exact h.q8
   re:=by subst bE;exact h.re
   ia:=by subst bE;exact h.ia
   ie:=by subst bE;exact h.ie
   ix:=by subst bE;exact h.ix
   nl:=by have:=h.nl;subst bE;simp only[kG];omega
   np:=by have:=h.np;subst bE;show c.ps.length<=_;omega
   nt:=by have:=h.nt;subst bE;show c.tl.length<=_;omega
   no:=by have:=h.no;subst bE;show c.os.length<=_;omega
   nr:=by have:=h.nr;subst bE;show c.rg.length<=_;omega
   m0:=by subst bE;exact h.m0
   m1:=by have:=h.m1;subst bE;show c.mark<=_;omega }
theorem auM{wz w:World}{b k:Nat}{c:Ct}(h:St wz w b k c)(hk:k<=3000000){p:Pn}(hp:p∈c.ps) :
  Calls prog 45 #[.pointer (some ⟨b,0,none⟩),.pointer (some ⟨p.q,0,none⟩),.pointer (some ⟨p.gb,0,none⟩)] w fun e w'=>e=.returned (.bool true) /\
   ∃vt mark tl,St wz w' b (k+1) { c with vt:=vt,mark:=mark,tl:=tl }:=by
 obtain⟨hP,hG,h1,tu,hC⟩:=h.pl p hp;refine(ae7 b wz.heap.size p.q p.gb p.B p.C c.vp c.v1 c.v2 c.va c.vn c.ve c.vr c.vt c.vo c.mark c.tl p.md w h.L h.T
  (fun t ht g hg=>⟨fun e=>h.uW t ht g hg (.inl e),fun e=>h.uW t ht g hg (.inr (.inr (.inr (.inr (.inr (.inl e))))))⟩) hP hG hC (h.yd p hp b (.inl rfl))
  (fun g hg=>⟨fun e=>h.bt (by rw[<-e];exact hg),h.yd p hp g (.inr (.inr (.inr (.inr (.inr (.inl hg))))))⟩) h.gz.size h.m0 (by have:=h.m1;omega) (by have:=h.nt;omega) h1).mono fun e w' ⟨he,gt,ct,gJ,hL,h3,hT,hnw,JS,uo,hF⟩=>⟨he,?_⟩
 refine⟨.slice (some ⟨gt,0,none⟩) (c.tl.length+3) ct,c.mark+3*(4+(lQ p.md).length),c.tl++gJ,?_⟩;have hS:∀g,(g=b\/c.vt.ownBlock=some g)->c.de b g:=fun g hg=>by
  rcases hg with hg|hg
  ·exact .inl hg
  ·exact .inr (.inr (.inr (.inr (.inr (.inl hg)))))
 have oG:∀{T:TypeId} {v:Value} {n t base:Nat} {xs:List Value},w.ownsRow base T t v n xs->T≠58->T≠132->∀g,v.ownBlock=some g->¬(g=b\/c.vt.ownBlock=some g):=fun ho n1 n3 g hg hx=>by
  rcases hx with hx|hx
  ·subst hx;exact lD ho h.L n1 hg
  ·exact qw ho h.T.1 n3 g hg hx
 have yU:∀g cs,(g=b\/c.vt.ownBlock=some g)->¬aj w g 3 cs:=fun g cs hx hB=>by
  rcases hx with hx|hx
  ·subst hx;exact aN (uR h.L hB) (by decide)
  ·exact lD h.T.1 hB (by decide) hx
 obtain⟨c',bE⟩:∃c',c'=({ c with vt:=.slice (some ⟨gt,0,none⟩) (c.tl.length+3) ct,mark:=c.mark+3*(4+(lQ p.md).length),tl:=c.tl++gJ }:Ct):=⟨_,rfl⟩;have GA:∀g,c'.de b g->c.de b g\/(g=gt/\w.heap.size<=gt):=fun g hg=>by
  subst bE;rcases hg with hg|hg|hg|hg|hg|hg|hg|hg
  ·exact .inl (.inl hg)
  ·exact .inl (.inr (.inl hg))
  ·exact .inl (.inr (.inr (.inl hg)))
  ·exact .inl (.inr (.inr (.inr (.inl hg))))
  ·exact .inl (.inr (.inr (.inr (.inr (.inl hg)))))
  ·have e:some gt=some g:=hg
   injection e with e;rcases uo with h' | h'
   ·exact .inl (.inr (.inr (.inr (.inr (.inr (.inl (by rw[<-e];exact h')))))))
   ·exact .inr ⟨e.symm,h'⟩
  ·exact .inl (.inr (.inr (.inr (.inr (.inr (.inr (.inl hg)))))))
  ·exact .inl (ER hg)
 have uV:Gz w b c c':=fun g hg=>by
  rcases GA g hg with h' | ⟨h',xX⟩
  ·exact .inl h'
  ·exact .inr (by omega)
 rw[<-bE];have f:=(OG h1).2.2.2.2;exact
  {gz:=h.gr hF hS
   zb:=h.zb
   L:=by subst bE;exact hL
   kp:=by subst bE;exact hF.jO h.kp (oG h.kp (by decide) (by decide))
   k1:=by subst bE;exact hF.jO h.k1 (oG h.k1 (by decide) (by decide))
   k2:=by subst bE;exact hF.jO h.k2 (oG h.k2 (by decide) (by decide))
   kr:=by subst bE;exact hF.jO h.kr (oG h.kr (by decide) (by decide))
   T:=by subst bE;exact hT
   E:=by subst bE;exact h.em hF hS (oG h.E.1 (by decide) (by decide))
   pl:=by subst bE;exact h.ED hF hS
   li:=by subst bE;exact h.Pq hF yU
   nd:=by subst bE;exact h.nd
   zl:=by subst bE;exact h.zl
   qy:=by subst bE;exact h.qy
   yd:=by have:=h.Vi uV;subst bE;exact this
   uW:=fun t ht g hg hh=>by
    have ig:t∈c.tl++gJ:=by subst bE;exact ht
    rcases List.mem_append.1 ig with h' | h'
    ·exact h.Vj uV t h' g hg hh
    ·have a1:=hnw t h' g hg
     have a2:=JS t ig g hg;rcases GA g hh with h' | ⟨h',xX⟩
     ·have:=h.lt h';omega
     ·exact a2.2 h'
   tK:=by
    have:=h.Vk uV;subst bE;exact this
   bR:=by subst bE;exact h.bR
   q8:=by subst bE;exact h.q8
   re:=by subst bE;exact h.re
   ia:=by subst bE;exact h.ia
   ie:=by subst bE;exact h.ie
   ix:=by subst bE;exact h.ix
   nl:=by have:=h.nl;subst bE;show c.ls.length<=_;omega
   np:=by have:=h.np;subst bE;show c.ps.length<=_;omega
   nt:=by have:=h.nt;subst bE;simp;omega
   no:=by have:=h.no;subst bE;show c.os.length<=_;omega
   nr:=by have:=h.nr;subst bE;show c.rg.length<=_;omega
   m0:=by have:=h.m0;subst bE;show 0<=c.mark+_;omega
   m1:=by have:=h.m1;subst bE;show c.mark+_<=_;omega }
theorem auN{wz w w2:World}{b k:Nat}{c:Ct}(h:St wz w b k c)(hk:k<=2900000)(hg:w.grownBy w2 none){g:Nat}{l:List Int}(hB:aj w2 g 3 (l.map (Value.int .i64)).toArray)(atk:w.heap.size<=g)(hl:l.length<=1000000000) :
  Calls prog 70 #[.pointer (some ⟨b,0,none⟩),.slice (some ⟨g,0,none⟩) l.length l.length] w2 fun e w'=>e=.returned (.tuple #[])/\∃v1 v2 nk,St wz w' b (k+1) { c with v1:=v1,v2:=v2,ls:=c.ls++nk }:=by
 have fO:=h.nl;have hK:=h.Vl.grow hg;have gN:=hB.lt;have jm:=hg.size;refine(hK.Bi h.gz.size (by omega) (aZ.tM (base:=0) (bK _) rfl (by unfold maxLen;omega) hB).sl hl).mono fun e w' ⟨he,g1,c1,g2,c2,K',yb,pR,o1,o2⟩=>⟨he,.slice (some ⟨g1,0,none⟩) (c.ls.length+1) c1,.slice (some ⟨g2,0,none⟩) (c.ls.length+1) c2,[⟨g,w2.heap.size,l⟩],?_⟩;have hF:Fr (fun g=>g=b\/c.v1.ownBlock=some g\/c.v2.ownBlock=some g\/c.vr.ownBlock=some g\/c.vo.ownBlock=some g) w w':=K'.F.mono (fun g _ hg=>by
  rcases hg with hg|hg|hg
  ·exact .inl hg
  ·exact .inr (.inl hg)
  ·exact .inr (.inr (.inl hg)))
 have AR:∀g,c.vr.ownBlock=some g->g<w.heap.size:=fun g hg=>(jd h.kr g hg).2;have qN:=pR.gF hB (fun hx=>hK.zC g hx _ hB);refine h.Pr (vr:=c.vr) (rg:=c.rg) (vo:=c.vo) (os:=c.os) hF K'.L K'.k1 K'.k2 ?_ ?_ ?_ ?_ ?_ (fun u hu=>(h.qy u hu).mono) K'.o1 K'.o2 (fun g hg=>.inl hg) (fun g hg=>.inl hg) K'.sY ?_ ?_ (fun p hp=>.inl hp) h.ia h.ie h.ix (by simp) (by have:=h.nr;omega) (by have:=h.no;omega)
 ·refine K'.F.jO h.kr (fun g hg hx=>?_)
  rcases hx with hx|hx|hx
  ·exact h.br (by rw[<-hx];exact hg)
  ·exact h.q8 g hx hg
  ·exact h.re g hx hg
 ·refine⟨K'.F.jO h.E.1 (fun g hg hx=>?_),fun p' iH=>⟨(h.E.2 p' iH).1,K'.F.gF (h.E.2 p' iH).2 (fun hx=>h.tK p' iH ?_)⟩⟩
  ·rcases hx with hx|hx|hx
   ·exact h.bo (by rw[<-hx];exact hg)
   ·exact qw h.E.1 h.k1 (by decide) g hg hx
   ·exact qw h.E.1 h.k2 (by decide) g hg hx
  ·rcases hx with hx|hx|hx
   ·exact .inl hx
   ·exact .inr (.inr (.inl hx))
   ·exact .inr (.inr (.inr (.inl hx)))
 ·intro x hx
  obtain rfl:=List.mem_singleton.1 hx;exact⟨qN,yb,hl⟩
 ·show [g,w2.heap.size].Nodup
  simp;omega
 ·intro y hy
  have FA:y∈[g,w2.heap.size]:=hy;simp at FA;omega
 ·intro g' fQ hx
  have:=AR g' hx;rcases K'.o1 g' fQ with e|e
  ·exact h.q8 g' e hx
  ·omega
 ·intro g' fQ hx
  have:=AR g' hx;rcases K'.o2 g' fQ with e|e
  ·exact h.re g' e hx
  ·omega
theorem agh(a n:Int)(w:World)(_ha:-9223372036854775808<=a)(_hb:a<=9223372036854775807)(_h0:1<=n)(_hn:n<=1099511627776) :
  Calls prog 43 #[.int .i64 a,.int .i64 n] w fun e w'=>e=.returned (.int .i64 (xz a n))/\w'=w:=by
 by_cases h:a<0
 ·have He:=ae (show xz a n = -(a+1)%n by unfold xz;rw[ay h])
  go_enter func43,ntmps43;go_wp2;go_ret;exact⟨cE (by rw[He.out,<-Int.neg_tmod,Int.tmod_eq_emod_of_nonneg (by omega)]),rfl⟩
 ·have He:=ae (show xz a n=a%n by unfold xz;rw[ak h])
  go_enter func43,ntmps43;go_wp2;go_ret;exact⟨cE (by rw[He.out]),rfl⟩
theorem Vq(a n:Int)(w:World)(ha:-9223372036854775808<=a)(hb:a<=9223372036854775807)(h0:1<=n)(hn:n<=1099511627776) :
  Calls prog 43 #[.int .i64 a,.int .i64 n] w fun e w'=>e=.returned (.int .i64 (xz a n))/\∃nd,w'=w.drewN nd:=
 (agh a n w ha hb h0 hn).mono fun _ _ ⟨he,hw⟩=>⟨he,0,by rw[hw];rfl⟩
theorem Pt(a:Int)(n:Nat)(h:0<n):∃m:Nat,xz a n=m/\m<n:=by
 have h0:0<=xz a n:=by unfold xz;exact E7 _ (by omega)
 have h1:xz a n<n:=by unfold xz;exact E8 _ (by omega)
 obtain⟨m,hm⟩:=fR h0;exact⟨m,hm,by omega⟩
abbrev ov(K A B C:Int)(s:ByteArray):Array Value:=#[.int .i64 K,.int .i64 A,.int .i64 B,.int .i64 C,.string s]
theorem auO{wz w:World}{b k:Nat}{c:Ct}(h:St wz w b k c)(hk:k<=2900000)(A B C:Int)(s:ByteArray)(hs:s.size<=1000000000) :
  Calls prog 41 #[.pointer (some ⟨b,0,none⟩),.agg (ov 2 A B C s)] w fun e w'=>e=.returned (.bool true)/\∃c',St wz w' b (k+1) c':=by
 have g0:=aQ w (.cells (ov 2 A B C s) 61) none;have iD:=aj.bB w 61 (ov 2 A B C s);have p0:(w.alloc (.cells (ov 2 A B C s) 61)).cell? ⟨w.heap.size,0,none⟩=some (.int .i64 2):=iD.cell 0;have p4:(w.alloc (.cells (ov 2 A B C s) 61)).cell? ⟨w.heap.size,4,none⟩=some (.string s):=iD.cell 4;have yN:(w.alloc (.cells (ov 2 A B C s) 61)).heap.size=w.heap.size+1:=by simp
 have HC:=ae (Zb s (w.alloc (.cells (ov 2 A B C s) 61)) hs);have HS:=ae h;have G0:=ae g0;clear h iD g0;go_enter func41,ntmps41;go_wp2_with fail;refine HC.out.mono ?_;rintro e w2⟨rfl,fA,aM⟩;rw[yN] at fA;have iW:=ae (auN HS.out hk (aC G0.out aM) fA (by omega) (by rw[RU];exact hs));rw[RU] at iW;clear HC fA aM HS G0 p0 p4;go_wp2_with fail;refine iW.out.mono ?_;rintro e w3⟨rfl,v1,v2,nk,Bl⟩;have eX:=ae Bl;clear Bl iW;go_wp2;go_ret;exact⟨rfl,_,eX.out⟩
theorem auP{wz w:World}{b k:Nat}{c:Ct}(h:St wz w b k c)(A B C:Int)(s:ByteArray)(ha:wP (.int .i64 A))(hb:wP (.int .i64 B))(hc:wP (.int .i64 C)) :
  Calls prog 41 #[.pointer (some ⟨b,0,none⟩),.agg (ov 4 A B C s)] w fun e w'=>e=.returned (.bool true)/\∃c',St wz w' b (k+1) c':=by
 have dh:=h.L.lt;have iD:=aj.bB w 61 (ov 4 A B C s);have p0:(w.alloc (.cells (ov 4 A B C s) 61)).cell? ⟨w.heap.size,0,none⟩=some (.int .i64 4):=iD.cell 0;have p1:(w.alloc (.cells (ov 4 A B C s) 61)).cell? ⟨w.heap.size,1,none⟩=some (.int .i64 A):=iD.cell 1;have q3:w.cell? ⟨b,3,none⟩=some c.va:=h.L.cell 3;have f3:=h.L.free 3;have s3:=bD w b 3 (.int .i64 A);have ES:LW (w.setCell ⟨b,3,none⟩ (.int .i64 A)) b c.vp c.v1 c.v2 (.int .i64 A) c.vn c.ve c.vr c.vt (.int .i64 c.mark) c.vo:=h.L.set 3 (.int .i64 A);have kd:=aj.bB (w.setCell ⟨b,3,none⟩ (.int .i64 A)) 61 (ov 4 A B C s);rw[yi] at kd;have p2:((w.setCell ⟨b,3,none⟩ (.int .i64 A)).alloc (.cells (ov 4 A B C s) 61)).cell? ⟨w.heap.size,2,none⟩=some (.int .i64 B):=kd.cell 2;have q4:(w.setCell ⟨b,3,none⟩ (.int .i64 A)).cell? ⟨b,4,none⟩=some c.vn:=ES.cell 4;have f4:=ES.free 4;have s4:=bD (w.setCell ⟨b,3,none⟩ (.int .i64 A)) b 4 (.int .i64 B);have vI:LW ((w.setCell ⟨b,3,none⟩ (.int .i64 A)).setCell ⟨b,4,none⟩ (.int .i64 B)) b c.vp c.v1 c.v2 (.int .i64 A) (.int .i64 B) c.ve c.vr c.vt (.int .i64 c.mark) c.vo:=ES.set 4 (.int .i64 B);have fA:=aj.bB ((w.setCell ⟨b,3,none⟩ (.int .i64 A)).setCell ⟨b,4,none⟩ (.int .i64 B)) 61 (ov 4 A B C s);rw[yi,yi] at fA;have p3:(((w.setCell ⟨b,3,none⟩ (.int .i64 A)).setCell ⟨b,4,none⟩ (.int .i64 B)).alloc (.cells (ov 4 A B C s) 61)).cell? ⟨w.heap.size,3,none⟩=some (.int .i64 C):=fA.cell 3;have q5:((w.setCell ⟨b,3,none⟩ (.int .i64 A)).setCell ⟨b,4,none⟩ (.int .i64 B)).cell? ⟨b,5,none⟩=some c.ve:=vI.cell 5;have f5:=vI.free 5;have s5:=bD ((w.setCell ⟨b,3,none⟩ (.int .i64 A)).setCell ⟨b,4,none⟩ (.int .i64 B)) b 5 (.int .i64 C)
 have yh:LW (((w.setCell ⟨b,3,none⟩ (.int .i64 A)).setCell ⟨b,4,none⟩ (.int .i64 B)).setCell ⟨b,5,none⟩ (.int .i64 C)) b c.vp c.v1 c.v2 (.int .i64 A) (.int .i64 B) (.int .i64 C) c.vr c.vt (.int .i64 c.mark) c.vo:=vI.set 5 (.int .i64 C);have g0:=aQ (((w.setCell ⟨b,3,none⟩ (.int .i64 A)).setCell ⟨b,4,none⟩ (.int .i64 B)).setCell ⟨b,5,none⟩ (.int .i64 C)) (.cells (ov 4 A B C s) 61) none;have hF:Fr (fun g=>g=b\/c.vr.ownBlock=some g) w ((((w.setCell ⟨b,3,none⟩ (.int .i64 A)).setCell ⟨b,4,none⟩ (.int .i64 B)).setCell ⟨b,5,none⟩ (.int .i64 C)).alloc (.cells (ov 4 A B C s) 61)):=((((Fr.refl _ w).iI s3 (fun g e=>.inr (.inl (by injection e with e;exact e.symm)))).iI s4 (fun g e=>.inr (.inl (by injection e with e;exact e.symm)))).iI s5 (fun g e=>.inr (.inl (by injection e with e;exact e.symm)))).iI g0 (fun g e=>by cases e);have kr:=iJ (iJ (iJ (iJ h.kr s3 (fun g hg e=>by injection e with e;subst e;exact h.br hg)) s4 (fun g hg e=>by injection e with e;subst e;exact h.br hg)) s5 (fun g hg e=>by injection e with e;subst e;exact h.br hg)) g0 (by simp);have HE:=ae (h.Vm hF (yh.kept g0 (by simp)) kr h.qy (fun g hg=>.inl hg) ha hb hc (by have:=h.nr;omega));clear g0 iD s3 ES kd s4 vI fA s5 yh hF kr h;go_enter func41,ntmps41;go_wp2;go_ret;exact⟨rfl,_,HE.out⟩
theorem auQ{wz w:World}{b k:Nat}{c:Ct}(h:St wz w b k c)(A B C:Int)(s:ByteArray) :
  Calls prog 41 #[.pointer (some ⟨b,0,none⟩),.agg (ov 6 A B C s)] w fun e w'=>e=.returned (.bool true)/\∃c',St wz w' b (k+1) c':=by
 have iD:=aj.bB w 61 (ov 6 A B C s);have dh:=h.L.lt;have p0:(w.alloc (.cells (ov 6 A B C s) 61)).cell? ⟨w.heap.size,0,none⟩=some (.int .i64 6):=iD.cell 0;have q6:w.cell? ⟨b,6,none⟩=some c.vr:=h.L.cell 6;have f6:=h.L.free 6;have s6:=bD w b 6 (.slice none 0 0);have ES:LW (w.setCell ⟨b,6,none⟩ (.slice none 0 0)) b c.vp c.v1 c.v2 c.va c.vn c.ve (.slice none 0 0) c.vt (.int .i64 c.mark) c.vo:=h.L.set 6 (.slice none 0 0);have g0:=aQ (w.setCell ⟨b,6,none⟩ (.slice none 0 0)) (.cells (ov 6 A B C s) 61) none;have hF:Fr (fun g=>g=b\/c.vr.ownBlock=some g) w ((w.setCell ⟨b,6,none⟩ (.slice none 0 0)).alloc (.cells (ov 6 A B C s) 61)):=((Fr.refl _ w).iI s6 (fun g e=>.inr (.inl (by injection e with e;exact e.symm)))).iI g0 (fun g e=>by cases e);have HE:=ae (h.Vm (rg:=[]) hF (ES.kept g0 (by simp)) (kq _ _ _ _) (fun u hu=>by cases hu) (fun g e=>by cases e) h.ia h.ie h.ix (by simp));clear g0 iD s6 ES hF h;go_enter func41,ntmps41;go_wp2;go_ret;exact⟨rfl,_,HE.out⟩
theorem Vr(w:World)(b:Nat)(K A B C:Int)(s:ByteArray)(h2:K≠2)(h3:K≠3)(h4:K≠4)(h5:K≠5)(h6:K≠6) :
  Calls prog 41 #[.pointer (some ⟨b,0,none⟩),.agg (ov K A B C s)] w fun e w'=>e=.returned (.bool false)/\w.grownBy w' none:=by
 have g0:=aQ w (.cells (ov K A B C s) 61) none;have iD:=aj.bB w 61 (ov K A B C s);have p0:(w.alloc (.cells (ov K A B C s) 61)).cell? ⟨w.heap.size,0,none⟩=some (.int .i64 K):=iD.cell 0;have b2:(K==2)=false:=by simpa using h2
 have b3:(K==3)=false:=by simpa using h3
 have b4:(K==4)=false:=by simpa using h4
 have b5:(K==5)=false:=by simpa using h5
 have b6:(K==6)=false:=by simpa using h6
 have HE:=ae g0;clear g0 iD h2 h3 h4 h5 h6;go_enter func41,ntmps41;go_wp2;go_ret;exact⟨rfl,HE.out⟩
theorem St.v1n{wz w:World}{b k:Nat}{c:Ct}(h:St wz w b k c):∃ao c1,c.v1=.slice ao c.ls.length c1:=gY h.k1
theorem St.Bt{wz w:World}{b k:Nat}{c:Ct}(h:St wz w b k c){j:Nat}{x:Kl}(hx:c.ls[j]?=some x):∃g1 c1 g2 c2,c.v1=.slice (some ⟨g1,0,none⟩) c.ls.length c1/\c.v2=.slice (some ⟨g2,0,none⟩) c.ls.length c2 /\
  w.cell? ⟨g1,j,none⟩=some (.slice (some ⟨x.g,0,none⟩) x.l.length x.l.length)/\w.cell? ⟨g2,j,none⟩=some (.slice (some ⟨x.h,0,none⟩) x.l.length x.l.length):=by
 obtain⟨a1,c1,e1⟩:=gY h.k1;obtain⟨a2,c2,e2⟩:=gY h.k2;have k1:=h.k1;have k2:=h.k2;rw[e1] at k1;rw[e2] at k2;have hj:=M.bP hx;obtain⟨g1,r1,-,-,AA⟩:=nZ k1 (by omega);obtain⟨g2,r2,-,-,Jt⟩:=nZ k2 (by omega);subst r1 r2;refine⟨g1,c1,g2,c2,e1,e2,?_,?_⟩
 ·rw[AA j (by omega),dY,hx];rfl
 ·rw[Jt j (by omega),dY,hx];rfl
theorem Vs{w w':World}{row:Option Nat}(hg:w.grownBy w' row){a:Addr}{v:Value}(h:w.cell? a=some v)(eF:some a.block≠row):w'.cell? a=some v:=by
 rw[World.cell?_of_block (hg.block a.block (pY w _ h) eF)];exact h
theorem auR{wz w:World}{b k:Nat}{c:Ct}(h:St wz w b k c)(hk:k<=2900000)(A B C:Int)(s:ByteArray)(a0:-9223372036854775808<=A)(a1:A<=9223372036854775807)(b0:-9223372036854775808<=B)(b1:B<=9223372036854775807) :
  Calls prog 41 #[.pointer (some ⟨b,0,none⟩),.agg (ov 3 A B C s)] w fun e w'=>e=.returned (.bool true)/\∃c',St wz w' b (k+1) c':=by
 have g0:=aQ w (.cells (ov 3 A B C s) 61) none;have iD:=aj.bB w 61 (ov 3 A B C s);have h1:=h.grow g0;have fO:=h.nl;have dU:=ae (fun x (hx:x∈c.cb)=>(h.lt (ER (b:=b) hx)).2);generalize e1:w.alloc (.cells (ov 3 A B C s) 61)=w1 at g0 iD h1;have p0:w1.cell? ⟨w.heap.size,0,none⟩=some (.int .i64 3):=iD.cell 0;have p1:w1.cell? ⟨w.heap.size,1,none⟩=some (.int .i64 A):=iD.cell 1;have p2:w1.cell? ⟨w.heap.size,2,none⟩=some (.int .i64 B):=iD.cell 2;have p3:w1.cell? ⟨w.heap.size,3,none⟩=some (.int .i64 C):=iD.cell 3;clear g0 iD h;rcases Nat.eq_zero_or_pos c.ls.length with hz|hz
 ·obtain⟨ao,cc,ev⟩:=h1.v1n
  have q1:w1.cell? ⟨b,1,none⟩=some (.slice ao c.ls.length cc):=by rw[<-ev];exact h1.L.cell 1
  rw[hz] at q1;have HE:=ae (h1.vj (k':=k+1) (by omega));clear h1 ev hz;subst e1;go_enter func41,ntmps41;go_wp2;go_ret;exact⟨rfl,_,HE.out⟩
 ·obtain⟨j,hj,ke⟩:=Pt A c.ls.length hz
  obtain⟨x,hx⟩:∃x,c.ls[j]?=some x:=⟨_,aT ke⟩;obtain⟨g1,c1,g2,c2,Li,Lj,d1,d2⟩:=h1.Bt hx;have q1:w1.cell? ⟨b,1,none⟩=some (.slice (some ⟨g1,0,none⟩) c.ls.length c1):=by rw[<-Li];exact h1.L.cell 1
  have q2:w1.cell? ⟨b,2,none⟩=some (.slice (some ⟨g2,0,none⟩) c.ls.length c2):=by rw[<-Lj];exact h1.L.cell 2
  have HP:=ae (fun(W:World)=>Vq A c.ls.length W a0 a1 (by omega) (by omega));rw[hj] at HP;have HS:=ae h1;have Hx:=ae hx;have Hop:Hid (x.g<w.heap.size/\x.h<w.heap.size):=⟨dU.out x.g (List.mem_append_left _ (List.mem_map.2 ⟨x,bV hx,rfl⟩)),dU.out x.h (List.mem_append_right _ (List.mem_map.2 ⟨x,bV hx,rfl⟩))⟩;have Dc:Hid (c.v2.ownBlock=some g2):=by unfold Hid;rw[Lj];rfl
  clear h1 hx hj Li Lj dU;obtain⟨n,Hn⟩:∃n,Hid (c.ls.length=n):=⟨_,rfl⟩;rw[Hn.out] at q1 q2 HP hz ke fO;subst e1;go_enter func41,ntmps41;go_wp2_with fail;go_quiet (exact Calls.quiet_of (HP.out _));have gq:=bF (w.alloc (.cells (ov 3 A B C s) 61)) nq none;have hZ:=ae (HS.out.grow gq);replace p2:=aG gq p2;replace p3:=aG gq p3;replace q1:=aG gq q1;replace q2:=aG gq q2;replace d1:=aG gq d1;replace d2:=aG gq d2;clear gq HS p0 p1 HP;generalize (w.alloc (.cells (ov 3 A B C s) 61)).drewN nq=w2 at *;rcases Nat.eq_zero_or_pos x.l.length with rU|rU
  ·rw[rU] at d1
   have HE:=ae (hZ.out.vj (k':=k+1) (by omega));clear hZ d2;go_wp2;go_ret;exact⟨rfl,_,HE.out⟩
  ·obtain⟨i,hi,fC⟩:=Pt B x.l.length rU
   have uu:=(hZ.out.li x (bV Hx.out)).2.2;have HQ:=ae (fun(W:World)=>Vq B x.l.length W b0 b1 (by omega) (by omega));rw[hi] at HQ;clear hi;obtain⟨l,Hl⟩:∃l,Hid (x.l.length=l):=⟨_,rfl⟩;rw[Hl.out] at d1 d2 HQ rU fC uu;go_wp2_with fail;go_quiet (exact Calls.quiet_of (HQ.out _));have gq:=bF w2 nq none;have lA:=ae (hZ.out.grow gq);replace p3:=aG gq p3;replace q1:=aG gq q1;replace q2:=aG gq q2;replace d1:=aG gq d1;replace d2:=aG gq d2;clear gq hZ HQ p2;generalize w2.drewN nq=w3 at *;go_wp2_with fail;go_still_tail 10,(by kernel_rfl);show wpList _ _ _ _ _ (World.drew _);have gq:=gH w3 none;have kE:=ae (lA.out.grow gq);replace p3:=aG gq p3;replace q2:=aG gq q2;replace d2:=aG gq d2;clear gq lA q1 d1;generalize w3.drew=w4 at *;obtain⟨B1,B2,-⟩:=kE.out.li x (bV Hx.out);obtain⟨y,hy⟩:∃y,x.l[i]?=some y:=⟨_,aT (by rw[Hl.out];exact fC)⟩;have r1:w4.cell? ⟨x.g,i,none⟩=some (.int .i64 y):=by rw[B1.cell i,nH,dY,hy];rfl
   have f1:=B1.free i;have t1:=bD w4 x.g i (.int .i64 C);have eF:=Hop.out;have JP:b≠x.g:=fun e=>by have:=B1;rw[<-e] at this;exact aN (uR kE.out.L this) (by decide)
   have ng1:g2≠x.g:=fun e=>lD kE.out.k2 B1 (by decide) (by rw[<-e];exact Dc.out);have no1:w.heap.size≠x.g:=by omega
   have u3:=Vs t1 p3 (by intro e;injection e with e;exact no1 e);have u2:=Vs t1 q2 (by intro e;injection e with e;exact JP e);have z2:=Vs t1 d2 (by intro e;injection e with e;exact ng1 e);have Vt:=B2.kept t1 (by intro e;injection e with e;exact aN e.symm (by
    obtain⟨-,-,Lh⟩:=List.nodup_append.1 kE.out.nd;exact Lh x.g (List.mem_map.2 ⟨x,bV Hx.out,rfl⟩) x.h (List.mem_map.2 ⟨x,bV Hx.out,rfl⟩)))
   have r2:(w4.setCell ⟨x.g,i,none⟩ (.int .i64 C)).cell? ⟨x.h,i,none⟩=some (.int .i64 y):=by rw[Vt.cell i,nH,dY,hy];rfl
   have f2:=Vt.free i;have HE:=ae ((kE.out.grow (gH w4 none)).O7 Hx.out (i:=i) (by rw[Hl.out];exact fC) C);have gN:=B1.lt;have hhl:=B2.lt;clear kE B1 B2 Vt t1 eF JP ng1 hy q2 d2;go_wp2_with fail;obtain⟨w5,oa⟩:∃w5,w5=w4.setCell ⟨x.g,i,none⟩ (.int .i64 C):=⟨_,rfl⟩;rw[<-oa] at u3 u2 z2 r2 f2 ⊢;have Hw5:=ae oa;have xu:w4.heap.size=w5.heap.size:=by rw[oa,yi]
   clear oa r1 f1;go_still_tail 10,(by kernel_rfl);show wpList _ _ _ _ _ (World.drew _);have r3:=aG (gH w5 none) r2;have f3:w5.drew.frozen? ⟨x.h,i,none⟩=false:=f2;have He:Hid (w5.drew=w4.drew.setCell ⟨x.g,i,none⟩ (.int .i64 C)):=by unfold Hid;rw[Hw5.out];rfl
   clear u3 u2 z2 r2 f2 p3;rw[<-He.out] at HE;generalize w5.drew=w6 at *;go_wp2;go_ret;exact⟨rfl,_,HE.out⟩
theorem St.pk{wz w w1 w2:World}{b k gr cr:Nat}{c:Ct}{u:Value}(h:St wz w b k c)(h1:w.grownBy w1 none)(hu:Wn c.ls u)
  (cB:w2.ownsRow wz.heap.size 32 1 (.slice (some ⟨gr,0,none⟩) (c.rg.length+1) cr) (c.rg.length+1) (c.rg++[u])) (bC:w1.grownBy w2 c.vr.ownBlock) (jA:c.vr.ownBlock=some gr\/w1.heap.size<=gr) :
  St wz (w2.setCell ⟨b,6,none⟩ (.slice (some ⟨gr,0,none⟩) (c.rg.length+1) cr)) b (k+1) { c with vr:=.slice (some ⟨gr,0,none⟩) (c.rg.length+1) cr,rg:=c.rg++[u] } /\
   w2.cell? ⟨b,6,none⟩=some c.vr/\w2.frozen? ⟨b,6,none⟩=false/\b<w2.heap.size:=by
 have hs:=bD w2 b 6 (.slice (some ⟨gr,0,none⟩) (c.rg.length+1) cr);have hF:Fr (fun g=>g=b\/c.vr.ownBlock=some g) w (w2.setCell ⟨b,6,none⟩ (.slice (some ⟨gr,0,none⟩) (c.rg.length+1) cr)):=(((Fr.refl _ w).iI h1 (fun g e=>by cases e)).iI bC (fun g e=>.inr (.inr e))).iI hs (fun g e=>.inr (.inl (by injection e with e;exact e.symm)));have vI:=(h.L.kept h1 (by simp)).kept bC (fun e=>h.br e.symm);have cR:=h1.size;have dh:=h.L.lt;have Gp:gr≠b:=by
  rcases jA with e|e
  ·intro e';subst e';exact h.br e
  ·omega
 refine⟨h.Vm hF (vI.set 6 _) ?_ (fun v hv=>?_) (fun g hg=>?_) h.ia h.ie h.ix ?_,vI.cell 6,vI.free 6,vI.lt⟩
 ·rw[nC]
  exact iJ cB hs (fun g hg e=>by have e1:some gr=some g:=hg;injection e1 with e1;injection e with e;exact Gp (e1.trans e))
 ·rcases List.mem_append.1 hv with hv|hv
  ·exact h.qy v hv
  ·obtain rfl:=List.mem_singleton.1 hv;exact hu
 ·have e1:some gr=some g:=hg
  injection e1 with e1;subst e1;exact jA.imp id (fun e=>by omega)
 ·rw[nC];have:=h.nr;simp;omega
theorem auV{wz w:World}{b k:Nat}{c:Ct}(h:St wz w b k c)(hk:k<=2900000)(A B C:Int)(s:ByteArray)(hz:c.ls.length=0) :
  Calls prog 41 #[.pointer (some ⟨b,0,none⟩),.agg (ov 5 A B C s)] w fun e w'=>e=.returned (.bool true)/\∃c',St wz w' b (k+1) c':=by
 obtain⟨i0,nJ,cQ,cR,cZ⟩:=info_parts Tryz.Fv;have g0:=aQ w (.cells (ov 5 A B C s) 61) none;have iD:=aj.bB w 61 (ov 5 A B C s);have h1:=h.grow g0;have OE:=h.nr;have hzs:=g0.size;have hzz:=h.gz.size;generalize e1:w.alloc (.cells (ov 5 A B C s) 61)=w1 at g0 iD h1 hzs;have p0:w1.cell? ⟨w.heap.size,0,none⟩=some (.int .i64 5):=iD.cell 0;obtain⟨ao,cc,ev⟩:=h1.v1n;have q1:w1.cell? ⟨b,1,none⟩=some (.slice ao c.ls.length cc):=by rw[<-ev];exact h1.L.cell 1
 have q6:w1.cell? ⟨b,6,none⟩=some c.vr:=h1.L.cell 6;rw[hz] at q1;have HS:=ae h;have jw:=ae h1;have G0:=ae g0;clear h h1 ev hz iD g0;go_enter func41,ntmps41;subst e1;go_wp2_with (at_builtin;refine wpList_append_lies _ rfl _ _ 38 rfl wz.heap.size 32 i0 (.slice none 0 0) 1 24 underlying38 nJ cQ cR cZ rfl (by decide) _ _ _ rfl (lP jw.out.kr _) ⟨w.heap.size+1,0,none⟩ 1 1 [.slice none 0 0] rfl rfl ?c1 ?c2 ?c3 ?c4 ?c5 ?c6 (w.heap.size+2) ?c7 ?_)
 case c1=>
  have e:=kb (w.alloc (.cells (ov 5 A B C s) 61)) 32 #[.slice none 0 0];rw[show(w.alloc (.cells (ov 5 A B C s) 61)).heap.size=w.heap.size+1 from by simp] at e;exact e
 case c2=>intro u hu;simp at hu;subst hu;rfl
 case c3=>decide
 case c4=>unfold maxLen;omega
 case c5=>omega
 case c6=>simp;omega
 case c7=>simp
 intro gr cr w2 cB cV jA aK;have bC:(w.alloc (.cells (ov 5 A B C s) 61)).grownBy w2 c.vr.ownBlock:=aC (aQ _ _ _) cV;obtain⟨hE,c6,f6,Pu⟩:=HS.out.pk G0.out (.inl rfl) cB bC (jA.imp id (fun e=>by simp;omega));have HE:=ae hE;clear hE cB cV jA aK bC;go_wp2;go_ret;exact⟨rfl,_,HE.out⟩
theorem Pv(a N:Int)(M:Nat)(hN:N=M)(hM:0<M)(Fo:M<=1099511627776)(a0:-9223372036854775808<=a)(a1:a<=9223372036854775807) :
  ∃m:Nat,m<M/\∀W:World,Calls prog 43 #[.int .i64 a,.int .i64 N] W fun e w'=>e=.returned (.int .i64 m)/\∃nd,w'=W.drewN nd:=by
 obtain⟨m,hm,aK⟩:=Pt a M hM;subst hN;refine⟨m,aK,fun W=>?_⟩;have:=Vq a M W a0 a1 (by omega) (by omega);rw[hm] at this;exact this
theorem auY{wz w:World}{b k:Nat}{c:Ct}(h:St wz w b k c)(hk:k<=2900000)(A B C:Int)(s:ByteArray)(a0:-9223372036854775808<=A)(a1:A<=9223372036854775807)(hz:0<c.ls.length) :
  Calls prog 41 #[.pointer (some ⟨b,0,none⟩),.agg (ov 5 A B C s)] w fun e w'=>e=.returned (.bool true)/\∃c',St wz w' b (k+1) c':=by
 obtain⟨i0,nJ,cQ,cR,cZ⟩:=info_parts Tryz.Fv;have g0:=aQ w (.cells (ov 5 A B C s) 61) none;have iD:=aj.bB w 61 (ov 5 A B C s);have h1:=h.grow g0;have OE:=h.nr;have fO:=h.nl;have hzz:=h.gz.size;generalize e1:w.alloc (.cells (ov 5 A B C s) 61)=w1 at g0 iD h1;have p0:w1.cell? ⟨w.heap.size,0,none⟩=some (.int .i64 5):=iD.cell 0;have p1:w1.cell? ⟨w.heap.size,1,none⟩=some (.int .i64 A):=iD.cell 1;obtain⟨j,ke,HPj⟩:=Pv A c.ls.length c.ls.length rfl hz (by omega) a0 a1;obtain⟨x,hx⟩:∃x,c.ls[j]?=some x:=⟨_,aT ke⟩;obtain⟨g1,c1,g2,c2,Li,Lj,d1,-⟩:=h1.Bt hx;have q1:w1.cell? ⟨b,1,none⟩=some (.slice (some ⟨g1,0,none⟩) c.ls.length c1):=by rw[<-Li];exact h1.L.cell 1
 obtain⟨ia,ea,ia0,ia1⟩:=h1.ia;obtain⟨ie,ee,ie0,ie1⟩:=h1.ie;obtain⟨ix,ex,ix0,ix1⟩:=h1.ix;have q3:w1.cell? ⟨b,3,none⟩=some (.int .i64 ia):=by rw[<-ea];exact h1.L.cell 3
 have q4:w1.cell? ⟨b,4,none⟩=some (.int .i64 ie):=by rw[<-ee];exact h1.L.cell 4
 have q5:w1.cell? ⟨b,5,none⟩=some (.int .i64 ix):=by rw[<-ex];exact h1.L.cell 5
 have q6:w1.cell? ⟨b,6,none⟩=some c.vr:=h1.L.cell 6;have uu:=(h1.li x (bV hx)).2.2;have HP:=ae HPj;have HS:=ae h;have jw:=ae h1;have G0:=ae g0;have Hxm:=ae (bV hx);obtain⟨L,HL⟩:∃L,Hid (x.l.length=L):=⟨_,rfl⟩;rw[HL.out] at d1 uu;obtain⟨m1,Nf,Dh⟩:=Pv ia ((L:Int)+1) (L+1) (by omega) (by omega) (by omega) ia0 ia1;obtain⟨m2,Jd,mq⟩:=Pv ie ((L:Int)-m1+1) (L-m1+1) (by omega) (by omega) (by omega) ie0 ie1;obtain⟨m3,hm3,uB⟩:=Pv ix ((L:Int)-m1-m2+1) (L-m1-m2+1) (by omega) (by omega) (by omega) ix0 ix1;have Hp1:=ae Dh;have Hp2:=ae mq;have La:=ae uB;clear h h1 Li Lj iD g0 hx HPj ea ee ex Dh mq uB;obtain⟨n,Hn⟩:∃n,Hid (c.ls.length=n):=⟨_,rfl⟩;rw[Hn.out] at q1 HP hz ke fO;subst e1;go_enter func41,ntmps41;go_wp2_with fail;go_quiet (exact Calls.quiet_of (HP.out _));have gq:=bF (w.alloc (.cells (ov 5 A B C s) 61)) nq none;have hZ:=ae (jw.out.grow gq);have G2:=ae (aC G0.out gq);replace q3:=aG gq q3;replace q4:=aG gq q4;replace q5:=aG gq q5;replace q6:=aG gq q6;clear gq jw p0 p1 HP q1 d1 G0;generalize (w.alloc (.cells (ov 5 A B C s) 61)).drewN nq=w2 at *;go_wp2_with fail;refine(Hp1.out w2).mono ?_;rintro e w3⟨rfl,nd,rfl⟩;have gq:=bF w2 nd none;have lA:=ae (hZ.out.grow gq);have G3:=ae (aC G2.out gq);replace q4:=aG gq q4;replace q5:=aG gq q5;replace q6:=aG gq q6;clear gq hZ G2 q3 Hp1;generalize w2.drewN nd=w3 at *;go_wp2_with fail;refine(Hp2.out w3).mono ?_;rintro e w4⟨rfl,nd,rfl⟩;have gq:=bF w3 nd none;have kE:=ae (lA.out.grow gq);have G4:=ae (aC G3.out gq);replace q5:=aG gq q5;replace q6:=aG gq q6;clear gq lA G3 q4 Hp2;generalize w3.drewN nd=w4 at *;go_wp2_with fail;refine(La.out w4).mono ?_;rintro e w5⟨rfl,nd,rfl⟩;have gq:=bF w4 nd none;have vT:=ae (kE.out.grow gq);have G5:=ae (aC G4.out gq);replace q6:=aG gq q6;clear gq kE G4 q5 La;generalize w4.drewN nd=w5 at *
 obtain⟨n2,Hn2⟩:∃n2,Hid (n2=m1+m2):=⟨_,rfl⟩;obtain⟨n3,Hn3⟩:∃n3,Hid (n3=m1+m2+m3):=⟨_,rfl⟩;have en2:=Hn2.out;have en3:=Hn3.out;obtain⟨o,Ho⟩:∃o:Nat,Hid ((n3=m1/\o=0)\/(n3≠m1/\o=m1)):=by
  by_cases e:n3=m1
  ·exact⟨0,.inl ⟨e,rfl⟩⟩
  ·exact⟨m1,.inr ⟨e,rfl⟩⟩
 have hif:(if n3=m1 then some (⟨x.g,0,none⟩:Addr) else some ⟨x.g,m1,none⟩)=some ⟨x.g,o,none⟩:=by
  rcases Ho.out with⟨e,e'⟩|⟨e,e'⟩
  ·rw[ay e,e']
  ·rw[ak e,e']
 have how:o+(n2-m1)<=L:=by
  rcases Ho.out with⟨e,e'⟩|⟨e,e'⟩
  ·omega
  ·omega
 have wA:IntKind.i64.wrap ((m1:Int)+m2)=(n2:Int):=by rw[cS];omega
 have wB:IntKind.i64.wrap ((n2:Int)+m3)=(n3:Int):=by rw[cS];omega
 have l1:m1<=n2:=by omega
 have l2:n2<=n3:=by omega
 have l3:n3<=L:=by omega
 have HW:Hid (Wn c.ls (.slice (some ⟨x.g,o,none⟩) (n2-m1) (n3-m1))):=.inr ⟨x,Hxm.out,o,n2-m1,n3-m1,rfl,by rw[HL.out];exact how⟩;clear en2 en3 how Nf Jd hm3;go_wp2_with fail;have r6:=cell_regrown q6;clear q6;refine CC 15 16 (fun w'=>∃p:Regrown,w'=Go.Sort.grow (redrawn w5 p.d) p.os) (w5.drew.alloc (.cells #[.slice (some ⟨x.g,o,none⟩) (n2-m1) (n3-m1)] 32)) (by kernel_rfl) (by kernel_rfl) (by decide) ⟨⟨w5.drawn+1,#[]⟩,by rw[Go.Sort.grow_empty];rfl⟩ ⟨⟨w5.drawn+1,#[.cells #[.slice (some ⟨x.g,o,none⟩) (n2-m1) (n3-m1)] 32]⟩,rfl⟩ ?_;simp only[List.take_succ_cons,List.take_zero,List.drop_succ_cons,List.drop_zero]
 repeat (refine yZ (by decide) (fun K hK=>?_);go_simp;refine hK _ ?_;clear hK K)
 refine CD (.slice (some ⟨w5.heap.size,0,none⟩) 1 1) ?hw ?hr ?_
 case hw=>rfl
 case hr=>go_simp
 refine CE ?_;clear r6 hif wA wB;have xu:=G5.out.size;go_wp2_with (at_builtin;refine wpList_append_lies _ rfl _ _ 38 rfl wz.heap.size 32 i0 (.slice none 0 0) 1 24 underlying38 nJ cQ cR cZ rfl (by decide) _ _ _ rfl (lP (iJ vT.out.kr (gH w5 none) (by simp)) _) ⟨w5.heap.size,0,none⟩ 1 1 [.slice (some ⟨x.g,o,none⟩) (n2-m1) (n3-m1)] rfl rfl ?c1 ?c2 ?c3 ?c4 ?c5 ?c6 (w5.heap.size+1) ?c7 ?_)
 case c1=>exact kb w5.drew 32 #[.slice (some ⟨x.g,o,none⟩) (n2-m1) (n3-m1)]
 case c2=>intro u hu;simp at hu;subst hu;rfl
 case c3=>decide
 case c4=>unfold maxLen;omega
 case c5=>omega
 case c6=>simp;omega
 case c7=>simp
 intro gr cr w8 cB cV jA aK;have bC:w5.drew.grownBy w8 c.vr.ownBlock:=aC (aQ _ _ _) cV;obtain⟨hE,c6,f6,Pu⟩:=HS.out.pk (aC G5.out (gH w5 none)) HW.out cB bC (jA.imp id (fun e=>by show w5.heap.size<=gr;omega));have HE:=ae hE;clear hE cB cV jA aK bC;go_wp2;go_ret;exact⟨rfl,_,HE.out⟩
end Go.Proofs.YtcnhfffgbamonabGreat
