import Derived.Test.YtcnhfffgbamonabGreatZ42
set_option maxRecDepth 100000
set_option maxHeartbeats 6400000
namespace Go.Proofs.YtcnhfffgbamonabGreat
open Go.Proofs.Tryz
open Go.RowKit
theorem avp{wz w:World}{b k:Nat}{c:Ct}(h:St wz w b k c)(hk:k<=2900000){p:Pn}(hp:p∈c.ps)(a:Option Addr)(n cp:Nat)(ins:List (List Int))(hI:tG wz w (.slice a n cp) ins)(hl:∀l∈ins,l.length<=9223372036854775807)(hn:ins.length<=9223372036854775807) :
  Calls prog 44 #[.pointer (some ⟨b,0,none⟩),.agg #[.pointer (some ⟨p.q,0,none⟩),.pointer (some ⟨p.gb,0,none⟩)],.slice a n cp] w fun e w'=>e=.returned (.bool true) /\
   Fr (fun g=>g=b\/c.v1.ownBlock=some g\/c.v2.ownBlock=some g\/c.vr.ownBlock=some g\/c.vo.ownBlock=some g) w w'/\∃v1 v2 vo nk os,St wz w' b (k+1) { c with v1:=v1,v2:=v2,vo:=vo,ls:=c.ls++nk,os:=os }:=by
 obtain⟨hP,hG,h1,tu,hC⟩:=h.pl p hp;obtain⟨a9,c9,e9⟩:=gY h.E.1;have wZ:=h.no;have fO:=h.nl;have hc9:w.cell? ⟨b,9,none⟩=some (.slice a9 c.os.length c9):=by rw[<-e9];exact h.L.cell 9
 have hE:vQ w wz.heap.size (.slice a9 c.os.length c9) c.os:=by rw[<-e9];exact h.E
 rcases hh:D.jM p.md ins with _|_
 ·refine(asY b wz.heap.size p.q p.gb p.md a9 _ c9 c.os a n cp ins wz w h.gz hc9 hE (by omega) hP.pl hG.Ks h1 tu hI hl hn hh).mono fun e w' ⟨he,hg⟩=>⟨he,(Fr.uw hg).mono (fun g _ h=>by cases h),c.v1,c.v2,c.vo,[],c.os,?_⟩
  have:=(h.grow hg).vj (k':=k+1) (by omega)
  simpa using this
 ·have hK:=h.Vl
  rw[e9] at hK;refine(as7 b wz.heap.size p.q p.gb p.md c.vp c.v1 c.v2 c.va c.vn c.ve c.vr c.vt (.int .i64 c.mark) a9 _ c9 c.os _ _ _ a n cp ins wz w h.gz hK h.gz.size (fun g hg=>(h.lt (hg.elim .inl (fun e=>.inr (.inr (e.elim .inl (fun e=>.inr (.inl e))))))).1) (by omega) hE (by omega)
   (fun g hg=>by
    rw[<-e9] at hg;exact⟨fun e=>h.bo (by rw[<-e];exact hg),fun e=>qw h.E.1 h.k1 (by decide) g hg e,fun e=>qw h.E.1 h.k2 (by decide) g hg e⟩)
   (fun p hp=>⟨fun e=>h.tK p hp (.inl e),fun e=>h.tK p hp (.inr (.inr (.inl e))),fun e=>h.tK p hp (.inr (.inr (.inr (.inl e))))⟩)
   hP.pl hG.Ks h1 tu hI hl hn hh).mono fun e w' ⟨he,u1,u2,g9,Ut,G,kF,hs,R⟩=>?_
  have jB:(D.run p.md ins).length=p.md.aJ.length:=by unfold D.run;simp
  obtain⟨q1,q2,q3,q4,q5,q6⟩:=age (gs:=kF) (hs:=hs) (rs:=D.run p.md ins) (by rw[R.l1,jB]) (by rw[R.l2,jB]);have pW:=Zv h1 hh;have hu:=(OG h1).2.2.2.2.2.2.2.2;have hF:Fr (fun g=>g=b\/c.v1.ownBlock=some g\/c.v2.ownBlock=some g\/c.vr.ownBlock=some g\/c.vo.ownBlock=some g) w w':=R.F.mono (fun g _ hg=>by
   rcases hg with hg|hg|hg|hg
   ·exact .inl hg
   ·exact .inr (.inl hg)
   ·exact .inr (.inr (.inl hg))
   ·rw[<-e9] at hg;exact .inr (.inr (.inr (.inr hg))))
  have AR:∀g,c.vr.ownBlock=some g->g<w.heap.size:=fun g hg=>(jd h.kr g hg).2;refine⟨he,hF,u1,u2,_,kls kF hs (D.run p.md ins),_,h.Pr (vr:=c.vr) (rg:=c.rg) hF R.L ?_ ?_ ?_ R.E ?_ ?_ ?_ ?_ R.o1 R.o2 (fun g hg=>.inl hg) ?_ R.sY ?_ ?_ ?_ h.ia h.ie h.ix ?_ ?_ ?_⟩
  ·rw[q1,q2,jB];exact R.k1
  ·rw[q1,q3,jB];exact R.k2
  ·refine R.F.jO h.kr (fun g hg hx=>?_)
   rcases hx with hx|hx|hx|hx
   ·exact h.br (by rw[<-hx];exact hg)
   ·exact h.q8 g hx hg
   ·exact h.re g hx hg
   ·rw[<-e9] at hx;exact qw h.kr h.E.1 (by decide) g hg hx
  ·intro x hx
   obtain⟨j,b1,b2,b3⟩:=q6 x hx;exact⟨R.f1 j _ _ b1 b3,R.f2 j _ _ b2 b3,by have:=pW _ (bV b3);omega⟩
  ·rw[q4,q5];exact R.so.imp (fun h=>Nat.ne_of_lt h)
  ·rw[q4,q5];exact R.ab
  ·exact fun u hu=>(h.qy u hu).mono
  ·intro g hg
   have e1:some g9=some g:=hg;injection e1 with e1;subst e1;rw[e9];exact R.o9.1
  ·intro g hg hx
   have:=AR g hx;rcases R.o1 g hg with e|e
   ·exact h.q8 g e hx
   ·omega
  ·intro g hg hx
   have:=AR g hx;rcases R.o2 g hg with e|e
   ·exact h.re g e hx
   ·omega
  ·intro p' iH
   rcases List.mem_append.1 iH with iH|iH
   ·exact .inl iH
   ·obtain rfl:=List.mem_singleton.1 iH
    exact .inr ⟨R.bB.1,R.bB.2.1,R.bB.2.2,fun e=>by have:=AR _ e;have:=R.bB.1;omega⟩
  ·rw[q1,jB];omega
  ·have:=h.nr;omega
  ·rw[nC];simp;omega
theorem avr{wz w:World}{b k:Nat}{c:Ct}(h:St wz w b k c)(hk:k<=2900000){p:Pn}(hp:p∈c.ps)(s:ByteArray)(hs:s.size<=1000000000) :
  Calls prog 46 #[.pointer (some ⟨b,0,none⟩),.agg #[.pointer (some ⟨p.q,0,none⟩),.pointer (some ⟨p.gb,0,none⟩)],.string s] w fun e w'=>e=.returned (.tuple #[]) /\
   Fr (fun g=>g=b\/c.v1.ownBlock=some g\/c.v2.ownBlock=some g\/c.vr.ownBlock=some g\/c.vo.ownBlock=some g) w w'/\∃v1 v2 vr nk rg,St wz w' b (k+1) { c with v1:=v1,v2:=v2,vr:=vr,ls:=c.ls++nk,rg:=rg }:=by
 obtain⟨hP,hG,h1,tu,hC⟩:=h.pl p hp;have fO:=h.nl;refine(avg b wz.heap.size p.q p.gb p.B p.C p.md c.vp c.v1 c.v2 c.va c.vn c.ve c.vr c.vt (.int .i64 c.mark) c.vo _ _ _ s w h.Vl h.gz.size (by omega) hs hG hC (fun g hg=>h.yd p hp g (by
  rcases hg with hg|hg|hg
  ·exact .inl hg
  ·exact .inr (.inr (.inl hg))
  ·exact .inr (.inr (.inr (.inl hg))))) h1 tu).mono fun e w' ⟨he,ye,u1,u2,m,rs,gs,jG,hm,R⟩=>?_
 obtain⟨q1,q2,q3,q4,q5,q6⟩:=age (gs:=gs) (hs:=jG) (rs:=rs) (by rw[R.l1,R.l0]) (by rw[R.l2,R.l0]);have hF:Fr (fun g=>g=b\/c.v1.ownBlock=some g\/c.v2.ownBlock=some g\/c.vr.ownBlock=some g\/c.vo.ownBlock=some g) w w':=R.K.F.mono (fun g _ hg=>by
  rcases hg with hg|hg|hg
  ·exact .inl hg
  ·exact .inr (.inl hg)
  ·exact .inr (.inr (.inl hg)))
 have vV:(List.zipWith dg gs rs).length=m:=by rw[aa8,R.l1,R.l0,Nat.min_self]
 refine⟨he,hF,u1,u2,ye,kls gs jG rs,List.zipWith dg gs rs,h.Pr (vo:=c.vo) (os:=c.os) hF R.K.L ?_ ?_ ?_ ?_ ?_ ?_ ?_ ?_ R.K.o1 R.K.o2 ?_ (fun g hg=>.inl hg) R.K.sY ?_ ?_ (fun p hp=>.inl hp) h.ia h.ie h.ix ?_ ?_ ?_⟩
 ·rw[q1,q2,R.l0];exact R.K.k1
 ·rw[q1,q3,R.l0];exact R.K.k2
 ·rw[vV];exact m9 R.R h.gz.size
 ·refine⟨R.K.F.jO h.E.1 (fun g hg hx=>?_),fun p' iH=>⟨(h.E.2 p' iH).1,R.K.F.gF (h.E.2 p' iH).2 (fun hx=>h.tK p' iH ?_)⟩⟩
  ·rcases hx with hx|hx|hx
   ·exact h.bo (by rw[<-hx];exact hg)
   ·exact qw h.E.1 h.k1 (by decide) g hg hx
   ·exact qw h.E.1 h.k2 (by decide) g hg hx
  ·rcases hx with hx|hx|hx
   ·exact .inl hx
   ·exact .inr (.inr (.inl hx))
   ·exact .inr (.inr (.inr (.inl hx)))
 ·intro x hx
  obtain⟨j,b1,b2,b3⟩:=q6 x hx;exact⟨R.f1 j _ _ b1 b3,R.f2 j _ _ b2 b3,by have:=R.sh _ (bV b3);omega⟩
 ·rw[q4,q5];exact R.nd
 ·rw[q4,q5];exact fun g hg=>(R.ab g hg).1
 ·intro u hu
  rw[<-q2] at hu;obtain⟨x,hx,rfl⟩:=List.mem_map.1 hu;exact .inr ⟨x,List.mem_append_right _ hx,0,x.l.length,x.l.length,rfl,by omega⟩
 ·intro g hg
  exact .inr (jd R.R g hg).1
 ·intro g hg hx
  exact(R.rb g hx).2.1 hg
 ·intro g hg hx
  exact(R.rb g hx).2.2 hg
 ·rw[q1,R.l0];omega
 ·rw[vV];omega
 ·have:=h.no;omega
theorem Tryz.Py:(prog.info? 99).map (·.size)=some 2:=by kernel_rfl
theorem St.avs{wz w:World}{b k:Nat}{c:Ct}(h:St wz w b k c){i:Nat}{p:Pn}(hp:c.ps[i]?=some p):∃g cp,c.vp=.slice (some ⟨g,0,none⟩) c.ps.length cp/\w.rangeAt g (i*2) [.pointer (some ⟨p.q,0,none⟩),.pointer (some ⟨p.gb,0,none⟩)]:=by
 obtain⟨ao,cp,e⟩:=gY h.kp;have hk:=h.kp;rw[e] at hk;have hi:=M.bP hp;obtain⟨g,ea,-,-,kS⟩:=nZ hk (by omega);refine⟨g,cp,by rw[e,ea],fun j v hv=>?_⟩;have hj:j<2:=by have:=M.bP hv;simpa using this
 rw[kS (i*2+j) (by omega),lL Pp 2 (fun _=>rfl) c.ps i j p hp hj];exact hv
theorem St.lin{wz w:World}{b k:Nat}{c:Ct}(h:St wz w b k c):∃ins:List (List Int),tG wz w c.vr ins/\ins.length=c.rg.length/\∀l∈ins,l.length<=1000000000:=by
 have cK:∀u∈c.rg,∃l:List Int,(∃a cp,u=.slice a l.length cp)/\lV wz w u l/\l.length<=1000000000:=fun u hu=>by
  rcases h.qy u hu with rfl|⟨x,hx,i,n,cp,rfl,dd⟩
  ·exact⟨[],⟨none,0,rfl⟩,.inr (.inl (aZ.nil _ _)),by simp⟩
  ·obtain⟨h1,-,h3⟩:=h.li x hx
   have jB:((x.l.drop i).take n).length=n:=by rw[Ae,List.length_drop];omega
   refine⟨(x.l.drop i).take n,⟨some ⟨x.g,i,none⟩,cp,by rw[jB]⟩,.inr (.inr ⟨x.g,i,cp,_,by rw[jB],h1,fun j y hy=>?_⟩),by omega⟩;have hj:j<n:=by have:=M.bP hy;omega
   rw[List.getElem?_take_of_lt hj,List.getElem?_drop] at hy;rw[nH,dY,hy]
   rfl
 obtain⟨ins,hl,dd⟩:∃ins:List (List Int),ins.length=c.rg.length/\∀(j:Nat) u l,c.rg[j]?=some u->ins[j]?=some l->(∃a cp,u=.slice a l.length cp)/\lV wz w u l/\l.length<=1000000000:=by
  have Vw:∀us:List Value,(∀u∈us,∃l:List Int,(∃a cp,u=.slice a l.length cp)/\lV wz w u l/\l.length<=1000000000)->∃ins:List (List Int),ins.length=us.length/\∀(j:Nat) u l,us[j]?=some u->ins[j]?=some l->(∃a cp,u=.slice a l.length cp)/\lV wz w u l/\l.length<=1000000000:=fun us=>by
   induction us with
   | nil=>exact fun _=>⟨[],rfl,fun j u l hu=>by cases hu⟩
   | cons u us ih=>
    intro hk;obtain⟨l,h1⟩:=hk u (pq ..);obtain⟨ins,h2,h3⟩:=ih (fun u hu=>hk u (sL _ hu));refine⟨l::ins,by simp[h2],fun j u' l' hu hl=>?_⟩
    cases j with
    | zero=>simp at hu hl;subst hu hl;exact h1
    | succ j=>exact h3 j u' l' (by simpa using hu) (by simpa using hl)
  exact Vw c.rg cK
 obtain⟨ao,cp,e⟩:=gY h.kr;refine⟨ins,⟨ao,cp,by rw[e,hl],fun i l fC=>?_⟩,hl,fun l ij=>?_⟩
 ·have hi:=M.bP fC
  obtain⟨u,hu⟩:∃u,c.rg[i]?=some u:=⟨_,aT (by omega)⟩;obtain⟨⟨a,Ro,rfl⟩,hW,-⟩:=dd i u l hu fC;have hk:=h.kr;rw[e] at hk;obtain⟨g,ea,-,-,kS⟩:=nZ hk (by omega);refine⟨⟨g,0,none⟩,a,Ro,ea,?_,hW⟩;have ea:(⟨g,0,none⟩:Addr).add i=⟨g,i,none⟩:=by unfold Addr.add;split<;>simp_all
  rw[ea,kS i (by omega),hu]
 ·obtain⟨j,hj⟩:=List.mem_iff_getElem?.1 ij
  have hi:=M.bP hj;obtain⟨u,hu⟩:∃u,c.rg[j]?=some u:=⟨_,aT (by omega)⟩;exact(dd j u l hu hj).2.2
end Go.Proofs.YtcnhfffgbamonabGreat
