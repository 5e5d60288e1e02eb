import Derived.Test.YtcnhfffgbamonaaGreatZ42
set_option maxRecDepth 100000
set_option maxHeartbeats 6400000
namespace Go.Proofs.YtcnhfffgbamonaaGreat
open Go.Proofs.Tryz
open RowKit
theorem Qa{α:Type}{l:List α}{j:Nat}{a:α}(h:l[j]?=some a):l.set j a=l:=by
 apply nM
 intro i;rw[ox];by_cases e:j=i
 ·subst e
  rw[ay rfl,ay (M.bP h),h]
 ·rw[ak e]
theorem St.Wf{wz w w':World}{b k:Nat}{c:Ct}(h:St wz w b k c){va vn ve vr:Value}{rg:List Value}
  (hF:Fr (fun g=>g=b\/c.vr.ownBlock=some g) w w') (hL:LW w' b c.vp c.v1 c.v2 va vn ve vr c.vt (.int .i64 c.mark) c.vo)
  (kr:w'.ownsRow wz.heap.size 33 1 vr rg.length rg) (qJ:∀u∈rg,Wn c.ls u) (LL:∀g,vr.ownBlock=some g->c.vr.ownBlock=some g\/w.heap.size<=g)
  (ia:xg va) (ie:xg vn) (ix:xg ve) (nr:rg.length<=300*(k+1)):
  St wz w' b (k+1) {c with va:=va,vn:=vn,ve:=ve,vr:=vr,rg:=rg}:=by
 have hF':Fr (fun g=>g=b\/c.v1.ownBlock=some g\/c.v2.ownBlock=some g\/c.vr.ownBlock=some g\/c.vo.ownBlock=some g) w w':=hF.mono (fun g _ hg=>hg.imp id (fun e=>.inr (.inr (.inl e))));have l1:∀g,c.v1.ownBlock=some g->g<w.heap.size:=fun g hg=>(iL h.k1 g hg).2;have l2:∀g,c.v2.ownBlock=some g->g<w.heap.size:=fun g hg=>(iL h.k2 g hg).2;have hv:∀g,c.df b g->g=b\/c.vr.ownBlock=some g->g=b\/c.vr.ownBlock=some g:=fun _ _ e=>e;have e:=h.PY (u1:=c.v1) (u2:=c.v2) (va:=va) (vn:=vn) (ve:=ve) (vr:=vr) (vo:=c.vo) (nk:=[]) (rg:=rg) (os:=c.os) hF' hL
  (by simpa using hF.jI h.k1 (fun g hg hx=>hx.elim (fun e=>h.b1 (by rw[<-e];exact hg)) (fun e=>h.rE g hg e)))
  (by simpa using hF.jI h.k2 (fun g hg hx=>hx.elim (fun e=>h.b2 (by rw[<-e];exact hg)) (fun e=>h.rF g hg e)))
  kr ⟨hF.jI h.E.1 (fun g hg hx=>hx.elim (fun e=>h.bo (by rw[<-e];exact hg)) (fun e=>qG h.E.1 h.kr (by decide) g hg e)),fun p hp=>⟨(h.E.2 p hp).1,hF.gy (h.E.2 p hp).2 (fun hx=>h.tX p hp (hx.elim .inl (fun e=>.inr (.inr (.inr (.inr (.inl e)))))))⟩⟩
  (fun x hx=>by cases hx) (by simp) (by simp) (fun u hu=>(qJ u hu).mono) (fun g hg=>.inl hg) (fun g hg=>.inl hg) LL (fun g hg=>.inl hg) h.bR
  (fun g hg hx=>by
   rcases LL g hx with e|e
   ·exact h.rE g hg e
   ·have:=l1 g hg;omega)
  (fun g hg hx=>by
   rcases LL g hx with e|e
   ·exact h.rF g hg e
   ·have:=l2 g hg;omega)
  (fun p hp=>.inl hp) ia ie ix (by simp) nr (by have:=h.no;omega)
 simpa using e
theorem St.PE{wz w:World}{b k:Nat}{c:Ct}(h:St wz w b k c){j i:Nat}{x:Kl}(hx:c.ls[j]?=some x)(_hi:i<x.l.length)(v:Int):
  St wz ((w.setCell ⟨x.g,i,none⟩ (.int .i64 v)).setCell ⟨x.h,i,none⟩ (.int .i64 v)) b (k+1) {c with ls:=c.ls.set j ⟨x.g,x.h,x.l.set i v⟩}:=by
 have hj:=M.bP hx;have AX:=bU hx;have g1:=bD w x.g i (.int .i64 v);have g2:=bD (w.setCell ⟨x.g,i,none⟩ (.int .i64 v)) x.h i (.int .i64 v);obtain⟨w',rS⟩:∃w',w'=(w.setCell ⟨x.g,i,none⟩ (.int .i64 v)).setCell ⟨x.h,i,none⟩ (.int .i64 v):=⟨_,rfl⟩;have hF:Fr (fun g=>g=x.g\/g=x.h) w w':=by
  rw[rS];exact((Fr.refl _ w).iK g1 (fun g e=>.inr (.inl (by injection e with e;exact e.symm)))).iK g2 (fun g e=>.inr (.inr (by injection e with e;exact e.symm)))
 have xX:x.g∈c.cb:=List.mem_append_left _ (List.mem_map.2 ⟨x,AX,rfl⟩);have hhm:x.h∈c.cb:=List.mem_append_right _ (List.mem_map.2 ⟨x,AX,rfl⟩);have hS:∀g,(g=x.g\/g=x.h)->c.df b g:=fun g hg=>by
  rcases hg with rfl|rfl
  ·exact Fb xX
  ·exact Fb hhm
 obtain⟨B1,B2,iX⟩:=h.li x AX;have oM:∀{T:TypeId} {u:Value} {n t base:Nat} {xs:List Value},w.ownsRow base T t u n xs->T≠3->∀g,u.ownBlock=some g->¬(g=x.g\/g=x.h):=fun ho n3 g hg hx=>by
  rcases hx with rfl|rfl
  ·exact kW ho B1 n3 hg
  ·exact kW ho B2 n3 hg
 obtain⟨Ko,OK,LQ⟩:=List.nodup_append.1 h.nd;have hgh:x.g≠x.h:=LQ x.g (List.mem_map.2 ⟨x,AX,rfl⟩) x.h (List.mem_map.2 ⟨x,AX,rfl⟩);have e1:(c.ls.set j ⟨x.g,x.h,x.l.set i v⟩).map (fun x=>cT x.g x.l)=c.ls.map (fun x=>cT x.g x.l):=by
  rw[List.map_set];refine Qa ?_;rw[dV,hx];simp[cT]
 have e2:(c.ls.set j ⟨x.g,x.h,x.l.set i v⟩).map (fun x=>cT x.h x.l)=c.ls.map (fun x=>cT x.h x.l):=by
  rw[List.map_set];refine Qa ?_;rw[dV,hx];simp[cT]
 have e3:(c.ls.set j ⟨x.g,x.h,x.l.set i v⟩).map (·.g)=c.ls.map (·.g):=by
  rw[List.map_set];refine Qa ?_;rw[dV,hx]
  rfl
 have e4:(c.ls.set j ⟨x.g,x.h,x.l.set i v⟩).map (·.h)=c.ls.map (·.h):=by
  rw[List.map_set];refine Qa ?_;rw[dV,hx]
  rfl
 obtain⟨c',bF⟩:∃c',c'=({c with ls:=c.ls.set j ⟨x.g,x.h,x.l.set i v⟩}:Ct):=⟨_,rfl⟩;have Wg:c'.cb=c.cb:=by subst bF;unfold Ct.cb;simp only;rw[e3,e4]
 have Wh:∀g,c'.df b g↔c.df b g:=fun g=>by
  unfold Ct.df;rw[Wg];subst bF;exact Iff.rfl
 have LM:∀y∈c'.ls,aj w' y.g 3 (y.l.map (Value.int .i64)).toArray/\aj w' y.h 3 (y.l.map (Value.int .i64)).toArray/\y.l.length<=1000000000:=fun y hy=>by
  have F6:y∈c.ls.set j ⟨x.g,x.h,x.l.set i v⟩:=by subst bF;exact hy
  obtain⟨m,hm⟩:=List.mem_iff_getElem?.1 F6;rw[ox] at hm;by_cases em:j=m
  ·rw[ay em,ay (by omega)] at hm
   injection hm with hm;subst hm;refine⟨?_,?_,by rw[kK];exact iX⟩
   ·have a1:=(B1.set i (.int .i64 v)).kept g2 (by intro e;injection e with e;exact hgh e)
    rw[Lm,<-List.map_set] at a1;rw[rS];exact a1
   ·have a1:=(B2.kept g1 (by intro e;injection e with e;exact hgh e.symm)).set i (.int .i64 v)
    rw[Lm,<-List.map_set] at a1;rw[rS];exact a1
  ·rw[ak em] at hm
   have Wi:=bU hm;obtain⟨a1,a2,a3⟩:=h.li y Wi;have n1:y.g≠x.g:=fun e=>em (by
    have h1:(c.ls.map (·.g))[j]?=some x.g:=by rw[dV,hx];rfl
    have h2:(c.ls.map (·.g))[m]?=some x.g:=by rw[dV,hm,<-e];rfl
    exact(List.getElem?_inj (by rw[jb];exact hj) Ko).1 (h1.trans h2.symm))
   have n2:y.h≠x.h:=fun e=>em (by
    have h1:(c.ls.map (·.h))[j]?=some x.h:=by rw[dV,hx];rfl
    have h2:(c.ls.map (·.h))[m]?=some x.h:=by rw[dV,hm,<-e];rfl
    exact(List.getElem?_inj (by rw[jb];exact hj) OK).1 (h1.trans h2.symm))
   have n3:y.g≠x.h:=LQ _ (List.mem_map.2 ⟨y,Wi,rfl⟩) _ (List.mem_map.2 ⟨x,AX,rfl⟩);have n4:x.g≠y.h:=LQ _ (List.mem_map.2 ⟨x,AX,rfl⟩) _ (List.mem_map.2 ⟨y,Wi,rfl⟩);exact⟨hF.gy a1 (fun hx=>hx.elim n1 n3),hF.gy a2 (fun hx=>hx.elim (fun e=>n4 e.symm) n2),a3⟩
 rw[<-bF,<-rS];exact
  {gz:=h.gr hF hS
   zb:=h.zb
   L:=by
    subst bF;exact hF.gy h.L (fun hx=>by
     rcases hx with hx|hx
     ·exact aN (tT h.L (show aj w b 3 _ by rw[hx];exact B1)) (by decide)
     ·exact aN (tT h.L (show aj w b 3 _ by rw[hx];exact B2)) (by decide))
   kp:=by subst bF;exact hF.jI h.kp (oM h.kp (by decide))
   k1:=by subst bF;simp only;rw[e1,kK];exact hF.jI h.k1 (oM h.k1 (by decide))
   k2:=by subst bF;simp only;rw[e2,kK];exact hF.jI h.k2 (oM h.k2 (by decide))
   kr:=by subst bF;exact hF.jI h.kr (oM h.kr (by decide))
   T:=by subst bF;exact h.ts hF hS (oM h.T.1 (by decide))
   E:=by subst bF;exact h.em hF hS (oM h.E.1 (by decide))
   pl:=by subst bF;exact h.EY hF hS
   li:=LM
   nd:=by rw[Wg];exact h.nd
   zl:=by rw[Wg];exact h.zl
   qJ:=fun u hu=>by
    have uA:u∈c.rg:=by subst bF;exact hu
    rcases h.qJ u uA with e|⟨y,hy,i',n,cp,eu,cY⟩
    ·exact .inl e
    ·obtain⟨m,hm⟩:=List.mem_iff_getElem?.1 hy
     have FL:=M.bP hm;by_cases em:j=m
     ·subst em
      rw[hx] at hm;injection hm with hm;subst hm;refine .inr ⟨⟨x.g,x.h,x.l.set i v⟩,?_,i',n,cp,eu,by rw[kK];exact cY⟩;subst bF;exact List.mem_iff_getElem?.2 ⟨j,by rw[ox,ay rfl,ay hj]⟩
     ·refine .inr ⟨y,?_,i',n,cp,eu,cY⟩
      subst bF;exact List.mem_iff_getElem?.2 ⟨m,by rw[ox,ak em];exact hm⟩
   yw:=fun p hp g hg=>h.yw p (by subst bF;exact hp) g ((Wh g).1 hg)
   vj:=fun t ht g hg hh=>h.vj t (by subst bF;exact ht) g hg ((Wh g).1 hh)
   tX:=fun p hp hh=>h.tX p (by subst bF;exact hp) ((Wh _).1 hh)
   bR:=by subst bF;exact h.bR
   rE:=by subst bF;exact h.rE
   rF:=by subst bF;exact h.rF
   ia:=by subst bF;exact h.ia
   ie:=by subst bF;exact h.ie
   ix:=by subst bF;exact h.ix
   nl:=by have:=h.nl;subst bF;simp only[kK];omega
   np:=by have:=h.np;subst bF;show c.ps.length<=_;omega
   nt:=by have:=h.nt;subst bF;show c.tl.length<=_;omega
   no:=by have:=h.no;subst bF;show c.os.length<=_;omega
   nr:=by have:=h.nr;subst bF;show c.rg.length<=_;omega
   m0:=by subst bF;exact h.m0
   m1:=by have:=h.m1;subst bF;show c.mark<=_;omega}
theorem awk{wz w:World}{b k:Nat}{c:Ct}(h:St wz w b k c)(hk:k<=3000000){p:Pn}(hp:p∈c.ps):
 Calls prog 35 #[.pointer (some ⟨b,0,none⟩),.pointer (some ⟨p.q,0,none⟩),.pointer (some ⟨p.gb,0,none⟩)] w fun e w'=>e=.returned (.bool true) /\
   ∃vt mark tl,St wz w' b (k+1) {c with vt:=vt,mark:=mark,tl:=tl}:=by
 obtain⟨hP,hG,h1,tL,hC⟩:=h.pl p hp;refine(afY b wz.heap.size p.q p.gb p.B p.C c.vp c.v1 c.v2 c.va c.vn c.ve c.vr c.vt c.vo c.mark c.tl p.md w h.L h.T
  (fun t ht g hg=>⟨fun e=>h.vj t ht g hg (.inl e),fun e=>h.vj t ht g hg (.inr (.inr (.inr (.inr (.inr (.inl e))))))⟩) hP hG hC (h.yw p hp b (.inl rfl))
  (fun g hg=>⟨fun e=>h.bt (by rw[<-e];exact hg),h.yw p hp g (.inr (.inr (.inr (.inr (.inr (.inl hg))))))⟩) h.gz.size h.m0 (by have:=h.m1;omega) (by have:=h.nt;omega) h1).mono fun e w' ⟨he,gt,ct,gM,hL,h3,hT,hnw,Kr,uF,hF⟩=>⟨he,?_⟩
 refine⟨.slice (some ⟨gt,0,none⟩) (c.tl.length+3) ct,c.mark+3*(4+(lT p.md).length),c.tl++gM,?_⟩;have hS:∀g,(g=b\/c.vt.ownBlock=some g)->c.df b g:=fun g hg=>by
  rcases hg with hg|hg
  ·exact .inl hg
  ·exact .inr (.inr (.inr (.inr (.inr (.inl hg)))))
 have oM:∀{T:TypeId} {v:Value} {n t base:Nat} {xs:List Value},w.ownsRow base T t v n xs->T≠31->T≠119->∀g,v.ownBlock=some g->¬(g=b\/c.vt.ownBlock=some g):=fun ho n1 n3 g hg hx=>by
  rcases hx with hx|hx
  ·subst hx;exact kW ho h.L n1 hg
  ·exact qG ho h.T.1 n3 g hg hx
 have zA:∀g cs,(g=b\/c.vt.ownBlock=some g)->¬aj w g 3 cs:=fun g cs hx hB=>by
  rcases hx with hx|hx
  ·subst hx;exact aN (tT h.L hB) (by decide)
  ·exact kW h.T.1 hB (by decide) hx
 obtain⟨c',bF⟩:∃c',c'=({c with vt:=.slice (some ⟨gt,0,none⟩) (c.tl.length+3) ct,mark:=c.mark+3*(4+(lT p.md).length),tl:=c.tl++gM}:Ct):=⟨_,rfl⟩;have G8:∀g,c'.df b g->c.df b g\/(g=gt/\w.heap.size<=gt):=fun g hg=>by
  subst bF;rcases hg with hg|hg|hg|hg|hg|hg|hg|hg
  ·exact .inl (.inl hg)
  ·exact .inl (.inr (.inl hg))
  ·exact .inl (.inr (.inr (.inl hg)))
  ·exact .inl (.inr (.inr (.inr (.inl hg))))
  ·exact .inl (.inr (.inr (.inr (.inr (.inl hg)))))
  ·have e:some gt=some g:=hg
   injection e with e;rcases uF with h' |h'
   ·exact .inl (.inr (.inr (.inr (.inr (.inr (.inl (by rw[<-e];exact h')))))))
   ·exact .inr ⟨e.symm,h'⟩
  ·exact .inl (.inr (.inr (.inr (.inr (.inr (.inr (.inl hg)))))))
  ·exact .inl (Fb hg)
 have vh:G7 w b c c':=fun g hg=>by
  rcases G8 g hg with h' |⟨h',ym⟩
  ·exact .inl h'
  ·exact .inr (by omega)
 rw[<-bF];have f:=(Pf h1).2.2.2.2;exact
  {gz:=h.gr hF hS
   zb:=h.zb
   L:=by subst bF;exact hL
   kp:=by subst bF;exact hF.jI h.kp (oM h.kp (by decide) (by decide))
   k1:=by subst bF;exact hF.jI h.k1 (oM h.k1 (by decide) (by decide))
   k2:=by subst bF;exact hF.jI h.k2 (oM h.k2 (by decide) (by decide))
   kr:=by subst bF;exact hF.jI h.kr (oM h.kr (by decide) (by decide))
   T:=by subst bF;exact hT
   E:=by subst bF;exact h.em hF hS (oM h.E.1 (by decide) (by decide))
   pl:=by subst bF;exact h.EY hF hS
   li:=by subst bF;exact h.PX hF zA
   nd:=by subst bF;exact h.nd
   zl:=by subst bF;exact h.zl
   qJ:=by subst bF;exact h.qJ
   yw:=by have:=h.VP vh;subst bF;exact this
   vj:=fun t ht g hg hh=>by
    have ij:t∈c.tl++gM:=by subst bF;exact ht
    rcases List.mem_append.1 ij with h' |h'
    ·exact h.VQ vh t h' g hg hh
    ·have a1:=hnw t h' g hg
     have a2:=Kr t ij g hg;rcases G8 g hh with h' |⟨h',ym⟩
     ·have:=h.lt h';omega
     ·exact a2.2 h'
   tX:=by
    have:=h.VR vh;subst bF;exact this
   bR:=by subst bF;exact h.bR
   rE:=by subst bF;exact h.rE
   rF:=by subst bF;exact h.rF
   ia:=by subst bF;exact h.ia
   ie:=by subst bF;exact h.ie
   ix:=by subst bF;exact h.ix
   nl:=by have:=h.nl;subst bF;show c.ls.length<=_;omega
   np:=by have:=h.np;subst bF;show c.ps.length<=_;omega
   nt:=by have:=h.nt;subst bF;simp;omega
   no:=by have:=h.no;subst bF;show c.os.length<=_;omega
   nr:=by have:=h.nr;subst bF;show c.rg.length<=_;omega
   m0:=by have:=h.m0;subst bF;show 0<=c.mark+_;omega
   m1:=by have:=h.m1;subst bF;show c.mark+_<=_;omega}
theorem awl{wz w w2:World}{b k:Nat}{c:Ct}(h:St wz w b k c)(hk:k<=2900000)(hg:w.grownBy w2 none){g:Nat}{l:List Int}(hB:aj w2 g 3 (l.map (Value.int .i64)).toArray)(aun:w.heap.size<=g)(hl:l.length<=1000000000):
 Calls prog 39 #[.pointer (some ⟨b,0,none⟩),.slice (some ⟨g,0,none⟩) l.length l.length] w2 fun e w'=>e=.returned (.tuple #[])/\∃v1 v2 nk,St wz w' b (k+1) {c with v1:=v1,v2:=v2,ls:=c.ls++nk}:=by
 have fP:=h.nl;have hK:=h.VS.grow hg;have gQ:=hB.lt;have ju:=hg.size;refine(hK.Bz h.gz.size (by omega) (aZ.sO (base:=0) (bK _) rfl (by unfold maxLen;omega) hB).sl hl).mono fun e w' ⟨he,g1,c1,g2,c2,K',yu,p9,o1,o2⟩=>⟨he,.slice (some ⟨g1,0,none⟩) (c.ls.length+1) c1,.slice (some ⟨g2,0,none⟩) (c.ls.length+1) c2,[⟨g,w2.heap.size,l⟩],?_⟩;have hF:Fr (fun g=>g=b\/c.v1.ownBlock=some g\/c.v2.ownBlock=some g\/c.vr.ownBlock=some g\/c.vo.ownBlock=some g) w w':=K'.F.mono (fun g _ hg=>by
  rcases hg with hg|hg|hg
  ·exact .inl hg
  ·exact .inr (.inl hg)
  ·exact .inr (.inr (.inl hg)))
 have Bg:∀g,c.vr.ownBlock=some g->g<w.heap.size:=fun g hg=>(iL h.kr g hg).2;have qZ:=p9.gy hB (fun hx=>hK.zU g hx _ hB);refine h.PY (vr:=c.vr) (rg:=c.rg) (vo:=c.vo) (os:=c.os) hF K'.L K'.k1 K'.k2 ?_ ?_ ?_ ?_ ?_ (fun u hu=>(h.qJ u hu).mono) K'.o1 K'.o2 (fun g hg=>.inl hg) (fun g hg=>.inl hg) K'.tD ?_ ?_ (fun p hp=>.inl hp) h.ia h.ie h.ix (by simp) (by have:=h.nr;omega) (by have:=h.no;omega)
 ·refine K'.F.jI h.kr (fun g hg hx=>?_)
  rcases hx with hx|hx|hx
  ·exact h.br (by rw[<-hx];exact hg)
  ·exact h.rE g hx hg
  ·exact h.rF g hx hg
 ·refine⟨K'.F.jI h.E.1 (fun g hg hx=>?_),fun p' iJ=>⟨(h.E.2 p' iJ).1,K'.F.gy (h.E.2 p' iJ).2 (fun hx=>h.tX p' iJ ?_)⟩⟩
  ·rcases hx with hx|hx|hx
   ·exact h.bo (by rw[<-hx];exact hg)
   ·exact qG h.E.1 h.k1 (by decide) g hg hx
   ·exact qG h.E.1 h.k2 (by decide) g hg hx
  ·rcases hx with hx|hx|hx
   ·exact .inl hx
   ·exact .inr (.inr (.inl hx))
   ·exact .inr (.inr (.inr (.inl hx)))
 ·intro x hx
  obtain rfl:=List.mem_singleton.1 hx;exact⟨qZ,yu,hl⟩
 ·show [g,w2.heap.size].Nodup
  simp;omega
 ·intro y hy
  have F6:y∈[g,w2.heap.size]:=hy;simp at F6;omega
 ·intro g' fS hx
  have:=Bg g' hx;rcases K'.o1 g' fS with e|e
  ·exact h.rE g' e hx
  ·omega
 ·intro g' fS hx
  have:=Bg g' hx;rcases K'.o2 g' fS with e|e
  ·exact h.rF g' e hx
  ·omega
theorem ahr(a n:Int)(w:World)(_ha:-9223372036854775808<=a)(_hb:a<=9223372036854775807)(_h0:1<=n)(_hn:n<=1099511627776):
 Calls prog 98 #[.int .i64 a,.int .i64 n] w fun e w'=>e=.returned (.int .i64 (xP a n))/\w'=w:=by
 by_cases h:a<0
 ·have He:=ae (show xP a n = -(a+1)%n by unfold xP;rw[ay h])
  go_enter func98,ntmps98;go_wp2;go_ret;exact⟨cH (by rw[He.out,<-Int.neg_tmod,Int.tmod_eq_emod_of_nonneg (by omega)]),rfl⟩
 ·have He:=ae (show xP a n=a%n by unfold xP;rw[ak h])
  go_enter func98,ntmps98;go_wp2;go_ret;exact⟨cH (by rw[He.out]),rfl⟩
theorem Wj(a n:Int)(w:World)(ha:-9223372036854775808<=a)(hb:a<=9223372036854775807)(h0:1<=n)(hn:n<=1099511627776):
 Calls prog 98 #[.int .i64 a,.int .i64 n] w fun e w'=>e=.returned (.int .i64 (xP a n))/\∃nd,w'=w.drewN nd:=
 (ahr a n w ha hb h0 hn).mono fun _ _ ⟨he,hw⟩=>⟨he,0,by rw[hw];rfl⟩
theorem Qb(a:Int)(n:Nat)(h:0<n):∃m:Nat,xP a n=m/\m<n:=by
 have h0:0<=xP a n:=by unfold xP;exact DS _ (by omega)
 have h1:xP a n<n:=by unfold xP;exact DU _ (by omega)
 obtain⟨m,hm⟩:=fT h0;exact⟨m,hm,by omega⟩
abbrev ov(K A B C:Int)(s:ByteArray):Array Value:=#[.int .i64 K,.int .i64 A,.int .i64 B,.int .i64 C,.string s]
theorem awm{wz w:World}{b k:Nat}{c:Ct}(h:St wz w b k c)(hk:k<=2900000)(A B C:Int)(s:ByteArray)(hs:s.size<=1000000000):
 Calls prog 97 #[.pointer (some ⟨b,0,none⟩),.agg (ov 2 A B C s)] w fun e w'=>e=.returned (.bool true)/\∃c',St wz w' b (k+1) c':=by
 have g0:=aQ w (.cells (ov 2 A B C s) 51) none;have iE:=aj.bA w 51 (ov 2 A B C s);have p0:(w.alloc (.cells (ov 2 A B C s) 51)).cell? ⟨w.heap.size,0,none⟩=some (.int .i64 2):=iE.cell 0;have p4:(w.alloc (.cells (ov 2 A B C s) 51)).cell? ⟨w.heap.size,4,none⟩=some (.string s):=iE.cell 4;have zn:(w.alloc (.cells (ov 2 A B C s) 51)).heap.size=w.heap.size+1:=by simp
 have HC:=ae (Z9 s (w.alloc (.cells (ov 2 A B C s) 51)) hs);have HS:=ae h;have G0:=ae g0;clear h iE g0;go_enter func97,ntmps97;go_wp2_with fail;refine HC.out.mono ?_;rintro e w2⟨rfl,ff,aM⟩;rw[zn] at ff;have jd:=ae (awl HS.out hk (aC G0.out aM) ff (by omega) (by rw[SC];exact hs));rw[SC] at jd;clear HC ff aM HS G0 p0 p4;go_wp2_with fail;refine jd.out.mono ?_;rintro e w3⟨rfl,v1,v2,nk,qa⟩;have eJ:=ae qa;clear qa jd;go_wp2;go_ret;exact⟨rfl,_,eJ.out⟩
theorem awn{wz w:World}{b k:Nat}{c:Ct}(h:St wz w b k c)(A B C:Int)(s:ByteArray)(ha:xg (.int .i64 A))(hb:xg (.int .i64 B))(hc:xg (.int .i64 C)):
 Calls prog 97 #[.pointer (some ⟨b,0,none⟩),.agg (ov 4 A B C s)] w fun e w'=>e=.returned (.bool true)/\∃c',St wz w' b (k+1) c':=by
 have dh:=h.L.lt;have iE:=aj.bA w 51 (ov 4 A B C s);have p0:(w.alloc (.cells (ov 4 A B C s) 51)).cell? ⟨w.heap.size,0,none⟩=some (.int .i64 4):=iE.cell 0;have p1:(w.alloc (.cells (ov 4 A B C s) 51)).cell? ⟨w.heap.size,1,none⟩=some (.int .i64 A):=iE.cell 1;have q3:w.cell? ⟨b,3,none⟩=some c.va:=h.L.cell 3;have f3:=h.L.free 3;have s3:=bD w b 3 (.int .i64 A);have Fk:LW (w.setCell ⟨b,3,none⟩ (.int .i64 A)) b c.vp c.v1 c.v2 (.int .i64 A) c.vn c.ve c.vr c.vt (.int .i64 c.mark) c.vo:=h.L.set 3 (.int .i64 A);have km:=aj.bA (w.setCell ⟨b,3,none⟩ (.int .i64 A)) 51 (ov 4 A B C s);rw[yC] at km;have p2:((w.setCell ⟨b,3,none⟩ (.int .i64 A)).alloc (.cells (ov 4 A B C s) 51)).cell? ⟨w.heap.size,2,none⟩=some (.int .i64 B):=km.cell 2;have q4:(w.setCell ⟨b,3,none⟩ (.int .i64 A)).cell? ⟨b,4,none⟩=some c.vn:=Fk.cell 4;have f4:=Fk.free 4;have s4:=bD (w.setCell ⟨b,3,none⟩ (.int .i64 A)) b 4 (.int .i64 B);have vW:LW ((w.setCell ⟨b,3,none⟩ (.int .i64 A)).setCell ⟨b,4,none⟩ (.int .i64 B)) b c.vp c.v1 c.v2 (.int .i64 A) (.int .i64 B) c.ve c.vr c.vt (.int .i64 c.mark) c.vo:=Fk.set 4 (.int .i64 B);have ff:=aj.bA ((w.setCell ⟨b,3,none⟩ (.int .i64 A)).setCell ⟨b,4,none⟩ (.int .i64 B)) 51 (ov 4 A B C s);rw[yC,yC] at ff;have p3:(((w.setCell ⟨b,3,none⟩ (.int .i64 A)).setCell ⟨b,4,none⟩ (.int .i64 B)).alloc (.cells (ov 4 A B C s) 51)).cell? ⟨w.heap.size,3,none⟩=some (.int .i64 C):=ff.cell 3;have q5:((w.setCell ⟨b,3,none⟩ (.int .i64 A)).setCell ⟨b,4,none⟩ (.int .i64 B)).cell? ⟨b,5,none⟩=some c.ve:=vW.cell 5;have f5:=vW.free 5;have s5:=bD ((w.setCell ⟨b,3,none⟩ (.int .i64 A)).setCell ⟨b,4,none⟩ (.int .i64 B)) b 5 (.int .i64 C)
 have yB:LW (((w.setCell ⟨b,3,none⟩ (.int .i64 A)).setCell ⟨b,4,none⟩ (.int .i64 B)).setCell ⟨b,5,none⟩ (.int .i64 C)) b c.vp c.v1 c.v2 (.int .i64 A) (.int .i64 B) (.int .i64 C) c.vr c.vt (.int .i64 c.mark) c.vo:=vW.set 5 (.int .i64 C);have g0:=aQ (((w.setCell ⟨b,3,none⟩ (.int .i64 A)).setCell ⟨b,4,none⟩ (.int .i64 B)).setCell ⟨b,5,none⟩ (.int .i64 C)) (.cells (ov 4 A B C s) 51) none;have hF:Fr (fun g=>g=b\/c.vr.ownBlock=some g) w ((((w.setCell ⟨b,3,none⟩ (.int .i64 A)).setCell ⟨b,4,none⟩ (.int .i64 B)).setCell ⟨b,5,none⟩ (.int .i64 C)).alloc (.cells (ov 4 A B C s) 51)):=((((Fr.refl _ w).iK s3 (fun g e=>.inr (.inl (by injection e with e;exact e.symm)))).iK s4 (fun g e=>.inr (.inl (by injection e with e;exact e.symm)))).iK s5 (fun g e=>.inr (.inl (by injection e with e;exact e.symm)))).iK g0 (fun g e=>by cases e);have kr:=iF (iF (iF (iF h.kr s3 (fun g hg e=>by injection e with e;subst e;exact h.br hg)) s4 (fun g hg e=>by injection e with e;subst e;exact h.br hg)) s5 (fun g hg e=>by injection e with e;subst e;exact h.br hg)) g0 (by simp);have HE:=ae (h.Wf hF (yB.kept g0 (by simp)) kr h.qJ (fun g hg=>.inl hg) ha hb hc (by have:=h.nr;omega));clear g0 iE s3 Fk km s4 vW ff s5 yB hF kr h;go_enter func97,ntmps97;go_wp2;go_ret;exact⟨rfl,_,HE.out⟩
theorem awo{wz w:World}{b k:Nat}{c:Ct}(h:St wz w b k c)(A B C:Int)(s:ByteArray):
 Calls prog 97 #[.pointer (some ⟨b,0,none⟩),.agg (ov 6 A B C s)] w fun e w'=>e=.returned (.bool true)/\∃c',St wz w' b (k+1) c':=by
 have iE:=aj.bA w 51 (ov 6 A B C s);have dh:=h.L.lt;have p0:(w.alloc (.cells (ov 6 A B C s) 51)).cell? ⟨w.heap.size,0,none⟩=some (.int .i64 6):=iE.cell 0;have q6:w.cell? ⟨b,6,none⟩=some c.vr:=h.L.cell 6;have f6:=h.L.free 6;have s6:=bD w b 6 (.slice none 0 0);have Fk:LW (w.setCell ⟨b,6,none⟩ (.slice none 0 0)) b c.vp c.v1 c.v2 c.va c.vn c.ve (.slice none 0 0) c.vt (.int .i64 c.mark) c.vo:=h.L.set 6 (.slice none 0 0);have g0:=aQ (w.setCell ⟨b,6,none⟩ (.slice none 0 0)) (.cells (ov 6 A B C s) 51) none;have hF:Fr (fun g=>g=b\/c.vr.ownBlock=some g) w ((w.setCell ⟨b,6,none⟩ (.slice none 0 0)).alloc (.cells (ov 6 A B C s) 51)):=((Fr.refl _ w).iK s6 (fun g e=>.inr (.inl (by injection e with e;exact e.symm)))).iK g0 (fun g e=>by cases e);have HE:=ae (h.Wf (rg:=[]) hF (Fk.kept g0 (by simp)) (ki _ _ _ _) (fun u hu=>by cases hu) (fun g e=>by cases e) h.ia h.ie h.ix (by simp));clear g0 iE s6 Fk hF h;go_enter func97,ntmps97;go_wp2;go_ret;exact⟨rfl,_,HE.out⟩
theorem Wk(w:World)(b:Nat)(K A B C:Int)(s:ByteArray)(h2:K≠2)(h3:K≠3)(h4:K≠4)(h5:K≠5)(h6:K≠6):
 Calls prog 97 #[.pointer (some ⟨b,0,none⟩),.agg (ov K A B C s)] w fun e w'=>e=.returned (.bool false)/\w.grownBy w' none:=by
 have g0:=aQ w (.cells (ov K A B C s) 51) none;have iE:=aj.bA w 51 (ov K A B C s);have p0:(w.alloc (.cells (ov K A B C s) 51)).cell? ⟨w.heap.size,0,none⟩=some (.int .i64 K):=iE.cell 0;have b2:(K==2)=false:=by simpa using h2
 have b3:(K==3)=false:=by simpa using h3
 have b4:(K==4)=false:=by simpa using h4
 have b5:(K==5)=false:=by simpa using h5
 have b6:(K==6)=false:=by simpa using h6
 have HE:=ae g0;clear g0 iE h2 h3 h4 h5 h6;go_enter func97,ntmps97;go_wp2;go_ret;exact⟨rfl,HE.out⟩
theorem St.v1n{wz w:World}{b k:Nat}{c:Ct}(h:St wz w b k c):∃ao c1,c.v1=.slice ao c.ls.length c1:=gP h.k1
theorem St.BI{wz w:World}{b k:Nat}{c:Ct}(h:St wz w b k c){j:Nat}{x:Kl}(hx:c.ls[j]?=some x):∃g1 c1 g2 c2,c.v1=.slice (some ⟨g1,0,none⟩) c.ls.length c1/\c.v2=.slice (some ⟨g2,0,none⟩) c.ls.length c2 /\
  w.cell? ⟨g1,j,none⟩=some (.slice (some ⟨x.g,0,none⟩) x.l.length x.l.length)/\w.cell? ⟨g2,j,none⟩=some (.slice (some ⟨x.h,0,none⟩) x.l.length x.l.length):=by
 obtain⟨a1,c1,e1⟩:=gP h.k1;obtain⟨a2,c2,e2⟩:=gP h.k2;have k1:=h.k1;have k2:=h.k2;rw[e1] at k1;rw[e2] at k2;have hj:=M.bP hx;obtain⟨g1,r1,-,-,AT⟩:=nE k1 (by omega);obtain⟨g2,r2,-,-,JV⟩:=nE k2 (by omega);subst r1 r2;refine⟨g1,c1,g2,c2,e1,e2,?_,?_⟩
 ·rw[AT j (by omega),dV,hx];rfl
 ·rw[JV j (by omega),dV,hx];rfl
theorem Wl{w w':World}{row:Option Nat}(hg:w.grownBy w' row){a:Addr}{v:Value}(h:w.cell? a=some v)(ey:some a.block≠row):w'.cell? a=some v:=by
 rw[World.cell?_of_block (hg.block a.block (ql w _ h) ey)];exact h
theorem awp{wz w:World}{b k:Nat}{c:Ct}(h:St wz w b k c)(hk:k<=2900000)(A B C:Int)(s:ByteArray)(a0:-9223372036854775808<=A)(a1:A<=9223372036854775807)(b0:-9223372036854775808<=B)(b1:B<=9223372036854775807):
 Calls prog 97 #[.pointer (some ⟨b,0,none⟩),.agg (ov 3 A B C s)] w fun e w'=>e=.returned (.bool true)/\∃c',St wz w' b (k+1) c':=by
 have g0:=aQ w (.cells (ov 3 A B C s) 51) none;have iE:=aj.bA w 51 (ov 3 A B C s);have h1:=h.grow g0;have fP:=h.nl;have dW:=ae (fun x (hx:x∈c.cb)=>(h.lt (Fb (b:=b) hx)).2);generalize e1:w.alloc (.cells (ov 3 A B C s) 51)=w1 at g0 iE h1;have p0:w1.cell? ⟨w.heap.size,0,none⟩=some (.int .i64 3):=iE.cell 0;have p1:w1.cell? ⟨w.heap.size,1,none⟩=some (.int .i64 A):=iE.cell 1;have p2:w1.cell? ⟨w.heap.size,2,none⟩=some (.int .i64 B):=iE.cell 2;have p3:w1.cell? ⟨w.heap.size,3,none⟩=some (.int .i64 C):=iE.cell 3;clear g0 iE h;rcases Nat.eq_zero_or_pos c.ls.length with hz|hz
 ·obtain⟨ao,cc,ev⟩:=h1.v1n
  have q1:w1.cell? ⟨b,1,none⟩=some (.slice ao c.ls.length cc):=by rw[<-ev];exact h1.L.cell 1
  rw[hz] at q1;have HE:=ae (h1.vH (k':=k+1) (by omega));clear h1 ev hz;subst e1;go_enter func97,ntmps97;go_wp2;go_ret;exact⟨rfl,_,HE.out⟩
 ·obtain⟨j,hj,ko⟩:=Qb A c.ls.length hz
  obtain⟨x,hx⟩:∃x,c.ls[j]?=some x:=⟨_,aS ko⟩;obtain⟨g1,c1,g2,c2,LR,LS,d1,d2⟩:=h1.BI hx;have q1:w1.cell? ⟨b,1,none⟩=some (.slice (some ⟨g1,0,none⟩) c.ls.length c1):=by rw[<-LR];exact h1.L.cell 1
  have q2:w1.cell? ⟨b,2,none⟩=some (.slice (some ⟨g2,0,none⟩) c.ls.length c2):=by rw[<-LS];exact h1.L.cell 2
  have HP:=ae (fun(W:World)=>Wj A c.ls.length W a0 a1 (by omega) (by omega));rw[hj] at HP;have HS:=ae h1;have Hx:=ae hx;have Hop:Hid (x.g<w.heap.size/\x.h<w.heap.size):=⟨dW.out x.g (List.mem_append_left _ (List.mem_map.2 ⟨x,bU hx,rfl⟩)),dW.out x.h (List.mem_append_right _ (List.mem_map.2 ⟨x,bU hx,rfl⟩))⟩;have wY:Hid (c.v2.ownBlock=some g2):=by unfold Hid;rw[LS];rfl
  clear h1 hx hj LR LS dW;obtain⟨n,Hn⟩:∃n,Hid (c.ls.length=n):=⟨_,rfl⟩;rw[Hn.out] at q1 q2 HP hz ko fP;subst e1;go_enter func97,ntmps97;go_wp2_with fail;go_quiet(exact Calls.quiet_of (HP.out _));have gq:=bE (w.alloc (.cells (ov 3 A B C s) 51)) nq none;have gL:=ae (HS.out.grow gq);replace p2:=aG gq p2;replace p3:=aG gq p3;replace q1:=aG gq q1;replace q2:=aG gq q2;replace d1:=aG gq d1;replace d2:=aG gq d2;clear gq HS p0 p1 HP;generalize (w.alloc (.cells (ov 3 A B C s) 51)).drewN nq=w2 at *;rcases Nat.eq_zero_or_pos x.l.length with sj|sj
  ·rw[sj] at d1
   have HE:=ae (gL.out.vH (k':=k+1) (by omega));clear gL d2;go_wp2;go_ret;exact⟨rfl,_,HE.out⟩
  ·obtain⟨i,hi,fq⟩:=Qb B x.l.length sj
   have uH:=(gL.out.li x (bU Hx.out)).2.2;have HQ:=ae (fun(W:World)=>Wj B x.l.length W b0 b1 (by omega) (by omega));rw[hi] at HQ;clear hi;obtain⟨l,Hl⟩:∃l,Hid (x.l.length=l):=⟨_,rfl⟩;rw[Hl.out] at d1 d2 HQ sj fq uH;go_wp2_with fail;go_quiet(exact Calls.quiet_of (HQ.out _));have gq:=bE w2 nq none;have lE:=ae (gL.out.grow gq);replace p3:=aG gq p3;replace q1:=aG gq q1;replace q2:=aG gq q2;replace d1:=aG gq d1;replace d2:=aG gq d2;clear gq gL HQ p2;generalize w2.drewN nq=w3 at *;go_wp2_with fail;go_still_tail 10,(by kernel_rfl);show wpList _ _ _ _ _ (World.drew _);have gq:=gE w3 none;have jS:=ae (lE.out.grow gq);replace p3:=aG gq p3;replace q2:=aG gq q2;replace d2:=aG gq d2;clear gq lE q1 d1;generalize w3.drew=w4 at *;obtain⟨B1,B2,-⟩:=jS.out.li x (bU Hx.out);obtain⟨y,hy⟩:∃y,x.l[i]?=some y:=⟨_,aS (by rw[Hl.out];exact fq)⟩;have r1:w4.cell? ⟨x.g,i,none⟩=some (.int .i64 y):=by rw[B1.cell i,nP,dV,hy];rfl
   have f1:=B1.free i;have t1:=bD w4 x.g i (.int .i64 C);have ey:=Hop.out;have Kn:b≠x.g:=fun e=>by have:=B1;rw[<-e] at this;exact aN (tT jS.out.L this) (by decide)
   have ng1:g2≠x.g:=fun e=>kW jS.out.k2 B1 (by decide) (by rw[<-e];exact wY.out);have no1:w.heap.size≠x.g:=by omega
   have u3:=Wl t1 p3 (by intro e;injection e with e;exact no1 e);have u2:=Wl t1 q2 (by intro e;injection e with e;exact Kn e);have z2:=Wl t1 d2 (by intro e;injection e with e;exact ng1 e);have Wm:=B2.kept t1 (by intro e;injection e with e;exact aN e.symm (by
    obtain⟨-,-,LQ⟩:=List.nodup_append.1 jS.out.nd;exact LQ x.g (List.mem_map.2 ⟨x,bU Hx.out,rfl⟩) x.h (List.mem_map.2 ⟨x,bU Hx.out,rfl⟩)))
   have r2:(w4.setCell ⟨x.g,i,none⟩ (.int .i64 C)).cell? ⟨x.h,i,none⟩=some (.int .i64 y):=by rw[Wm.cell i,nP,dV,hy];rfl
   have f2:=Wm.free i;have HE:=ae ((jS.out.grow (gE w4 none)).PE Hx.out (i:=i) (by rw[Hl.out];exact fq) C);have gQ:=B1.lt;have hhl:=B2.lt;clear jS B1 B2 Wm t1 ey Kn ng1 hy q2 d2;go_wp2_with fail;obtain⟨w5,oh⟩:∃w5,w5=w4.setCell ⟨x.g,i,none⟩ (.int .i64 C):=⟨_,rfl⟩;rw[<-oh] at u3 u2 z2 r2 f2 ⊢;have Hw5:=ae oh;have xJ:w4.heap.size=w5.heap.size:=by rw[oh,yC]
   clear oh r1 f1;go_still_tail 10,(by kernel_rfl);show wpList _ _ _ _ _ (World.drew _);have r3:=aG (gE w5 none) r2;have f3:w5.drew.frozen? ⟨x.h,i,none⟩=false:=f2;have He:Hid (w5.drew=w4.drew.setCell ⟨x.g,i,none⟩ (.int .i64 C)):=by unfold Hid;rw[Hw5.out];rfl
   clear u3 u2 z2 r2 f2 p3;rw[<-He.out] at HE;generalize w5.drew=w6 at *;go_wp2;go_ret;exact⟨rfl,_,HE.out⟩
theorem St.py{wz w w1 w2:World}{b k gr cr:Nat}{c:Ct}{u:Value}(h:St wz w b k c)(h1:w.grownBy w1 none)(hu:Wn c.ls u)
  (cB:w2.ownsRow wz.heap.size 33 1 (.slice (some ⟨gr,0,none⟩) (c.rg.length+1) cr) (c.rg.length+1) (c.rg++[u])) (bq:w1.grownBy w2 c.vr.ownBlock) (jr:c.vr.ownBlock=some gr\/w1.heap.size<=gr):
  St wz (w2.setCell ⟨b,6,none⟩ (.slice (some ⟨gr,0,none⟩) (c.rg.length+1) cr)) b (k+1) {c with vr:=.slice (some ⟨gr,0,none⟩) (c.rg.length+1) cr,rg:=c.rg++[u]} /\
   w2.cell? ⟨b,6,none⟩=some c.vr/\w2.frozen? ⟨b,6,none⟩=false/\b<w2.heap.size:=by
 have hs:=bD w2 b 6 (.slice (some ⟨gr,0,none⟩) (c.rg.length+1) cr);have hF:Fr (fun g=>g=b\/c.vr.ownBlock=some g) w (w2.setCell ⟨b,6,none⟩ (.slice (some ⟨gr,0,none⟩) (c.rg.length+1) cr)):=(((Fr.refl _ w).iK h1 (fun g e=>by cases e)).iK bq (fun g e=>.inr (.inr e))).iK hs (fun g e=>.inr (.inl (by injection e with e;exact e.symm)));have vW:=(h.L.kept h1 (by simp)).kept bq (fun e=>h.br e.symm);have cQ:=h1.size;have dh:=h.L.lt;have GQ:gr≠b:=by
  rcases jr with e|e
  ·intro e';subst e';exact h.br e
  ·omega
 refine⟨h.Wf hF (vW.set 6 _) ?_ (fun v hv=>?_) (fun g hg=>?_) h.ia h.ie h.ix ?_,vW.cell 6,vW.free 6,vW.lt⟩
 ·rw[nJ]
  exact iF cB hs (fun g hg e=>by have e1:some gr=some g:=hg;injection e1 with e1;injection e with e;exact GQ (e1.trans e))
 ·rcases List.mem_append.1 hv with hv|hv
  ·exact h.qJ v hv
  ·obtain rfl:=List.mem_singleton.1 hv;exact hu
 ·have e1:some gr=some g:=hg
  injection e1 with e1;subst e1;exact jr.imp id (fun e=>by omega)
 ·rw[nJ];have:=h.nr;simp;omega
theorem awt{wz w:World}{b k:Nat}{c:Ct}(h:St wz w b k c)(hk:k<=2900000)(A B C:Int)(s:ByteArray)(hz:c.ls.length=0):
 Calls prog 97 #[.pointer (some ⟨b,0,none⟩),.agg (ov 5 A B C s)] w fun e w'=>e=.returned (.bool true)/\∃c',St wz w' b (k+1) c':=by
 obtain⟨i0,mB,cP,cQ,cZ⟩:=info_parts Tryz.Ey;have g0:=aQ w (.cells (ov 5 A B C s) 51) none;have iE:=aj.bA w 51 (ov 5 A B C s);have h1:=h.grow g0;have GG:=h.nr;have hzs:=g0.size;have hzz:=h.gz.size;generalize e1:w.alloc (.cells (ov 5 A B C s) 51)=w1 at g0 iE h1 hzs;have p0:w1.cell? ⟨w.heap.size,0,none⟩=some (.int .i64 5):=iE.cell 0;obtain⟨ao,cc,ev⟩:=h1.v1n;have q1:w1.cell? ⟨b,1,none⟩=some (.slice ao c.ls.length cc):=by rw[<-ev];exact h1.L.cell 1
 have q6:w1.cell? ⟨b,6,none⟩=some c.vr:=h1.L.cell 6;rw[hz] at q1;have HS:=ae h;have jA:=ae h1;have G0:=ae g0;clear h h1 ev hz iE g0;go_enter func97,ntmps97;subst e1;go_wp2_with(at_builtin;refine wpList_append_lies _ rfl _ _ 25 rfl wz.heap.size 33 i0 (.slice none 0 0) 1 24 underlying25 mB cP cQ cZ rfl (by decide) _ _ _ rfl (lB jA.out.kr _) ⟨w.heap.size+1,0,none⟩ 1 1 [.slice none 0 0] rfl rfl ?c1 ?c2 ?c3 ?c4 ?c5 ?c6 (w.heap.size+2) ?c7 ?_)
 case c1=>
  have e:=kb (w.alloc (.cells (ov 5 A B C s) 51)) 33 #[.slice none 0 0];rw[show(w.alloc (.cells (ov 5 A B C s) 51)).heap.size=w.heap.size+1 from by simp] at e;exact e
 case c2=>intro u hu;simp at hu;subst hu;rfl
 case c3=>decide
 case c4=>unfold maxLen;omega
 case c5=>omega
 case c6=>simp;omega
 case c7=>simp
 intro gr cr w2 cB cR jr aJ;have bq:(w.alloc (.cells (ov 5 A B C s) 51)).grownBy w2 c.vr.ownBlock:=aC (aQ _ _ _) cR;obtain⟨hE,c6,f6,Ff⟩:=HS.out.py G0.out (.inl rfl) cB bq (jr.imp id (fun e=>by simp;omega));have HE:=ae hE;clear hE cB cR jr aJ bq;go_wp2;go_ret;exact⟨rfl,_,HE.out⟩
theorem Qc(a N:Int)(M:Nat)(hN:N=M)(hM:0<M)(FQ:M<=1099511627776)(a0:-9223372036854775808<=a)(a1:a<=9223372036854775807):
 ∃m:Nat,m<M/\∀W:World,Calls prog 98 #[.int .i64 a,.int .i64 N] W fun e w'=>e=.returned (.int .i64 m)/\∃nd,w'=W.drewN nd:=by
 obtain⟨m,hm,aJ⟩:=Qb a M hM;subst hN;refine⟨m,aJ,fun W=>?_⟩;have:=Wj a M W a0 a1 (by omega) (by omega);rw[hm] at this;exact this
theorem aww{wz w:World}{b k:Nat}{c:Ct}(h:St wz w b k c)(hk:k<=2900000)(A B C:Int)(s:ByteArray)(a0:-9223372036854775808<=A)(a1:A<=9223372036854775807)(hz:0<c.ls.length):
 Calls prog 97 #[.pointer (some ⟨b,0,none⟩),.agg (ov 5 A B C s)] w fun e w'=>e=.returned (.bool true)/\∃c',St wz w' b (k+1) c':=by
 obtain⟨i0,mB,cP,cQ,cZ⟩:=info_parts Tryz.Ey;have g0:=aQ w (.cells (ov 5 A B C s) 51) none;have iE:=aj.bA w 51 (ov 5 A B C s);have h1:=h.grow g0;have GG:=h.nr;have fP:=h.nl;have hzz:=h.gz.size;generalize e1:w.alloc (.cells (ov 5 A B C s) 51)=w1 at g0 iE h1;have p0:w1.cell? ⟨w.heap.size,0,none⟩=some (.int .i64 5):=iE.cell 0;have p1:w1.cell? ⟨w.heap.size,1,none⟩=some (.int .i64 A):=iE.cell 1;obtain⟨j,ko,HPj⟩:=Qc A c.ls.length c.ls.length rfl hz (by omega) a0 a1;obtain⟨x,hx⟩:∃x,c.ls[j]?=some x:=⟨_,aS ko⟩;obtain⟨g1,c1,g2,c2,LR,LS,d1,-⟩:=h1.BI hx;have q1:w1.cell? ⟨b,1,none⟩=some (.slice (some ⟨g1,0,none⟩) c.ls.length c1):=by rw[<-LR];exact h1.L.cell 1
 obtain⟨ia,ea,ia0,ia1⟩:=h1.ia;obtain⟨ie,ee,ie0,ie1⟩:=h1.ie;obtain⟨ix,ex,ix0,ix1⟩:=h1.ix;have q3:w1.cell? ⟨b,3,none⟩=some (.int .i64 ia):=by rw[<-ea];exact h1.L.cell 3
 have q4:w1.cell? ⟨b,4,none⟩=some (.int .i64 ie):=by rw[<-ee];exact h1.L.cell 4
 have q5:w1.cell? ⟨b,5,none⟩=some (.int .i64 ix):=by rw[<-ex];exact h1.L.cell 5
 have q6:w1.cell? ⟨b,6,none⟩=some c.vr:=h1.L.cell 6;have uH:=(h1.li x (bU hx)).2.2;have HP:=ae HPj;have HS:=ae h;have jA:=ae h1;have G0:=ae g0;have Hxm:=ae (bU hx);obtain⟨L,HL⟩:∃L,Hid (x.l.length=L):=⟨_,rfl⟩;rw[HL.out] at d1 uH;obtain⟨m1,NL,Dy⟩:=Qc ia ((L:Int)+1) (L+1) (by omega) (by omega) (by omega) ia0 ia1;obtain⟨m2,JH,mC⟩:=Qc ie ((L:Int)-m1+1) (L-m1+1) (by omega) (by omega) (by omega) ie0 ie1;obtain⟨m3,hm3,uN⟩:=Qc ix ((L:Int)-m1-m2+1) (L-m1-m2+1) (by omega) (by omega) (by omega) ix0 ix1;have Hp1:=ae Dy;have Hp2:=ae mC;have LH:=ae uN;clear h h1 LR LS iE g0 hx HPj ea ee ex Dy mC uN;obtain⟨n,Hn⟩:∃n,Hid (c.ls.length=n):=⟨_,rfl⟩;rw[Hn.out] at q1 HP hz ko fP;subst e1;go_enter func97,ntmps97;go_wp2_with fail;go_quiet(exact Calls.quiet_of (HP.out _));have gq:=bE (w.alloc (.cells (ov 5 A B C s) 51)) nq none;have gL:=ae (jA.out.grow gq);have G2:=ae (aC G0.out gq);replace q3:=aG gq q3;replace q4:=aG gq q4;replace q5:=aG gq q5;replace q6:=aG gq q6;clear gq jA p0 p1 HP q1 d1 G0;generalize (w.alloc (.cells (ov 5 A B C s) 51)).drewN nq=w2 at *;go_wp2_with fail;refine(Hp1.out w2).mono ?_;rintro e w3⟨rfl,nd,rfl⟩;have gq:=bE w2 nd none;have lE:=ae (gL.out.grow gq);have G3:=ae (aC G2.out gq);replace q4:=aG gq q4;replace q5:=aG gq q5;replace q6:=aG gq q6;clear gq gL G2 q3 Hp1;generalize w2.drewN nd=w3 at *;go_wp2_with fail;refine(Hp2.out w3).mono ?_;rintro e w4⟨rfl,nd,rfl⟩;have gq:=bE w3 nd none;have jS:=ae (lE.out.grow gq);have G4:=ae (aC G3.out gq);replace q5:=aG gq q5;replace q6:=aG gq q6;clear gq lE G3 q4 Hp2;generalize w3.drewN nd=w4 at *;go_wp2_with fail;refine(LH.out w4).mono ?_;rintro e w5⟨rfl,nd,rfl⟩;have gq:=bE w4 nd none;have sw:=ae (jS.out.grow gq);have G5:=ae (aC G4.out gq);replace q6:=aG gq q6;clear gq jS G4 q5 LH;generalize w4.drewN nd=w5 at *
 obtain⟨n2,Hn2⟩:∃n2,Hid (n2=m1+m2):=⟨_,rfl⟩;obtain⟨n3,Hn3⟩:∃n3,Hid (n3=m1+m2+m3):=⟨_,rfl⟩;have en2:=Hn2.out;have en3:=Hn3.out;obtain⟨o,Ho⟩:∃o:Nat,Hid ((n3=m1/\o=0)\/(n3≠m1/\o=m1)):=by
  by_cases e:n3=m1
  ·exact⟨0,.inl ⟨e,rfl⟩⟩
  ·exact⟨m1,.inr ⟨e,rfl⟩⟩
 have hif:(if n3=m1 then some (⟨x.g,0,none⟩:Addr) else some ⟨x.g,m1,none⟩)=some ⟨x.g,o,none⟩:=by
  rcases Ho.out with⟨e,e'⟩|⟨e,e'⟩
  ·rw[ay e,e']
  ·rw[ak e,e']
 have how:o+(n2-m1)<=L:=by
  rcases Ho.out with⟨e,e'⟩|⟨e,e'⟩
  ·omega
  ·omega
 have wA:IntKind.i64.wrap ((m1:Int)+m2)=(n2:Int):=by rw[cU];omega
 have wB:IntKind.i64.wrap ((n2:Int)+m3)=(n3:Int):=by rw[cU];omega
 have l1:m1<=n2:=by omega
 have l2:n2<=n3:=by omega
 have l3:n3<=L:=by omega
 have HW:Hid (Wn c.ls (.slice (some ⟨x.g,o,none⟩) (n2-m1) (n3-m1))):=.inr ⟨x,Hxm.out,o,n2-m1,n3-m1,rfl,by rw[HL.out];exact how⟩;clear en2 en3 how NL JH hm3;go_wp2_with fail;have r6:=cell_regrown q6;clear q6;refine CR 15 16 (fun w'=>∃p:Regrown,w'=Go.Sort.grow (redrawn w5 p.d) p.os) (w5.drew.alloc (.cells #[.slice (some ⟨x.g,o,none⟩) (n2-m1) (n3-m1)] 33)) (by kernel_rfl) (by kernel_rfl) (by decide) ⟨⟨w5.drawn+1,#[]⟩,by rw[Go.Sort.grow_empty];rfl⟩ ⟨⟨w5.drawn+1,#[.cells #[.slice (some ⟨x.g,o,none⟩) (n2-m1) (n3-m1)] 33]⟩,rfl⟩ ?_;simp only[List.take_succ_cons,List.take_zero,List.drop_succ_cons,List.drop_zero]
 repeat (refine zF (by decide) (fun K hK=>?_);go_simp;refine hK _ ?_;clear hK K)
 refine CS (.slice (some ⟨w5.heap.size,0,none⟩) 1 1) ?hw ?hr ?_
 case hw=>rfl
 case hr=>go_simp
 refine CT ?_;clear r6 hif wA wB;have xJ:=G5.out.size;go_wp2_with(at_builtin;refine wpList_append_lies _ rfl _ _ 25 rfl wz.heap.size 33 i0 (.slice none 0 0) 1 24 underlying25 mB cP cQ cZ rfl (by decide) _ _ _ rfl (lB (iF sw.out.kr (gE w5 none) (by simp)) _) ⟨w5.heap.size,0,none⟩ 1 1 [.slice (some ⟨x.g,o,none⟩) (n2-m1) (n3-m1)] rfl rfl ?c1 ?c2 ?c3 ?c4 ?c5 ?c6 (w5.heap.size+1) ?c7 ?_)
 case c1=>exact kb w5.drew 33 #[.slice (some ⟨x.g,o,none⟩) (n2-m1) (n3-m1)]
 case c2=>intro u hu;simp at hu;subst hu;rfl
 case c3=>decide
 case c4=>unfold maxLen;omega
 case c5=>omega
 case c6=>simp;omega
 case c7=>simp
 intro gr cr w8 cB cR jr aJ;have bq:w5.drew.grownBy w8 c.vr.ownBlock:=aC (aQ _ _ _) cR;obtain⟨hE,c6,f6,Ff⟩:=HS.out.py (aC G5.out (gE w5 none)) HW.out cB bq (jr.imp id (fun e=>by show w5.heap.size<=gr;omega));have HE:=ae hE;clear hE cB cR jr aJ bq;go_wp2;go_ret;exact⟨rfl,_,HE.out⟩
end Go.Proofs.YtcnhfffgbamonaaGreat
