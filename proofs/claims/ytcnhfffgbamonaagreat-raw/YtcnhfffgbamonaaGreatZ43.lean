import Derived.Test.YtcnhfffgbamonaaGreatZ42
namespace Go.Proofs.YtcnhfffgbamonaaGreat
open Go.Proofs.Tryz
open RowKit
theorem VV{wz w:World}{b k:Nat}{c:Ct}(h:St wz w b k c)(hk:k<=2900000){p:Pn}(hp:p∈c.ps)(a:Option Addr)(n cp:Nat)(ins:List (List Int))(hI:rD wz w (.slice a n cp) ins)(hl:∀l∈ins,l.length<=9223372036854775807)(hn:ins.length<=9223372036854775807):
 Calls prog 18 #[.pointer (some ⟨b,0,none⟩),.agg #[.pointer (some ⟨p.q,0,none⟩),.pointer (some ⟨p.gb,0,none⟩)],.slice a n cp] w fun e w'=>e=.returned (.bool true) /\
   Fr (fun g=>g=b\/c.v1.ownBlock=some g\/c.v2.ownBlock=some g\/c.vr.ownBlock=some g\/c.vo.ownBlock=some g) w w'/\∃v1 v2 vo nk os,St wz w' b (k+1) {c with v1:=v1,v2:=v2,vo:=vo,ls:=c.ls++nk,os:=os}:=by
 obtain⟨hP,hG,h1,tL,hC⟩:=h.pl p hp;obtain⟨a9,c9,e9⟩:=gP h.E.1;have xv:=h.no;have fP:=h.nl;have hc9:w.cell? ⟨b,9,none⟩=some (.slice a9 c.os.length c9):=by rw[<-e9];exact h.L.cell 9
 have hE:wD w wz.heap.size (.slice a9 c.os.length c9) c.os:=by rw[<-e9];exact h.E
 rcases hh:D.jP p.md ins with _|_
 ·refine(at3 b wz.heap.size p.q p.gb p.md a9 _ c9 c.os a n cp ins wz w h.gz hc9 hE (by omega) hP.pl hG.KS h1 tL hI hl hn hh).mono fun e w' ⟨he,hg⟩=>⟨he,(Fr.uI hg).mono (fun g _ h=>by cases h),c.v1,c.v2,c.vo,[],c.os,?_⟩
  have:=(h.grow hg).vH (k':=k+1) (by omega)
  simpa using this
 ·have hK:=h.VS
  rw[e9] at hK;refine(aua b wz.heap.size p.q p.gb p.md c.vp c.v1 c.v2 c.va c.vn c.ve c.vr c.vt (.int .i64 c.mark) a9 _ c9 c.os _ _ _ a n cp ins wz w h.gz hK h.gz.size (fun g hg=>(h.lt (hg.elim .inl (fun e=>.inr (.inr (e.elim .inl (fun e=>.inr (.inl e))))))).1) (by omega) hE (by omega)
   (fun g hg=>by
    rw[<-e9] at hg;exact⟨fun e=>h.bo (by rw[<-e];exact hg),fun e=>qG h.E.1 h.k1 (by decide) g hg e,fun e=>qG h.E.1 h.k2 (by decide) g hg e⟩)
   (fun p hp=>⟨fun e=>h.tX p hp (.inl e),fun e=>h.tX p hp (.inr (.inr (.inl e))),fun e=>h.tX p hp (.inr (.inr (.inr (.inl e))))⟩)
   hP.pl hG.KS h1 tL hI hl hn hh).mono fun e w' ⟨he,u1,u2,g9,U2,G,kJ,hs,R⟩=>?_
  have iX:(D.run p.md ins).length=p.md.aK.length:=by unfold D.run;simp
  obtain⟨q1,q2,q3,q4,q5,q6⟩:=ag6 (gs:=kJ) (hs:=hs) (rs:=D.run p.md ins) (by rw[R.l1,iX]) (by rw[R.l2,iX]);have qj:=aby h1 hh;have hu:=(Pf h1).2.2.2.2.2.2.2.2;have hF:Fr (fun g=>g=b\/c.v1.ownBlock=some g\/c.v2.ownBlock=some g\/c.vr.ownBlock=some g\/c.vo.ownBlock=some g) w w':=R.F.mono (fun g _ hg=>by
   rcases hg with hg|hg|hg|hg
   ·exact .inl hg
   ·exact .inr (.inl hg)
   ·exact .inr (.inr (.inl hg))
   ·rw[<-e9] at hg;exact .inr (.inr (.inr (.inr hg))))
  have Bg:∀g,c.vr.ownBlock=some g->g<w.heap.size:=fun g hg=>(iL h.kr g hg).2;refine⟨he,hF,u1,u2,_,kls kJ hs (D.run p.md ins),_,h.PY (vr:=c.vr) (rg:=c.rg) hF R.L ?_ ?_ ?_ R.E ?_ ?_ ?_ ?_ R.o1 R.o2 (fun g hg=>.inl hg) ?_ R.tD ?_ ?_ ?_ h.ia h.ie h.ix ?_ ?_ ?_⟩
  ·rw[q1,q2,iX];exact R.k1
  ·rw[q1,q3,iX];exact R.k2
  ·refine R.F.jI h.kr (fun g hg hx=>?_)
   rcases hx with hx|hx|hx|hx
   ·exact h.br (by rw[<-hx];exact hg)
   ·exact h.rE g hx hg
   ·exact h.rF g hx hg
   ·rw[<-e9] at hx;exact qG h.kr h.E.1 (by decide) g hg hx
  ·intro x hx
   obtain⟨j,b1,b2,b3⟩:=q6 x hx;exact⟨R.f1 j _ _ b1 b3,R.f2 j _ _ b2 b3,by have:=qj _ (bU b3);omega⟩
  ·rw[q4,q5];exact R.so.imp (fun h=>Nat.ne_of_lt h)
  ·rw[q4,q5];exact R.ab
  ·exact fun u hu=>(h.qJ u hu).mono
  ·intro g hg
   have e1:some g9=some g:=hg;injection e1 with e1;subst e1;rw[e9];exact R.o9.1
  ·intro g hg hx
   have:=Bg g hx;rcases R.o1 g hg with e|e
   ·exact h.rE g e hx
   ·omega
  ·intro g hg hx
   have:=Bg g hx;rcases R.o2 g hg with e|e
   ·exact h.rF g e hx
   ·omega
  ·intro p' iJ
   rcases List.mem_append.1 iJ with iJ|iJ
   ·exact .inl iJ
   ·obtain rfl:=List.mem_singleton.1 iJ
    exact .inr ⟨R.bA.1,R.bA.2.1,R.bA.2.2,fun e=>by have:=Bg _ e;have:=R.bA.1;omega⟩
  ·rw[q1,iX];omega
  ·have:=h.nr;omega
  ·rw[nJ];simp;omega
theorem ahe{wz w:World}{b k:Nat}{c:Ct}(h:St wz w b k c)(hk:k<=2900000){p:Pn}(hp:p∈c.ps)(s:ByteArray)(hs:s.size<=1000000000):
 Calls prog 20 #[.pointer (some ⟨b,0,none⟩),.agg #[.pointer (some ⟨p.q,0,none⟩),.pointer (some ⟨p.gb,0,none⟩)],.string s] w fun e w'=>e=.returned (.tuple #[]) /\
   Fr (fun g=>g=b\/c.v1.ownBlock=some g\/c.v2.ownBlock=some g\/c.vr.ownBlock=some g\/c.vo.ownBlock=some g) w w'/\∃v1 v2 vr nk rg,St wz w' b (k+1) {c with v1:=v1,v2:=v2,vr:=vr,ls:=c.ls++nk,rg:=rg}:=by
 obtain⟨hP,hG,h1,tL,hC⟩:=h.pl p hp;have fP:=h.nl;refine(avO b wz.heap.size p.q p.gb p.B p.C p.md c.vp c.v1 c.v2 c.va c.vn c.ve c.vr c.vt (.int .i64 c.mark) c.vo _ _ _ s w h.VS h.gz.size (by omega) hs hG hC (fun g hg=>h.yw p hp g (by
  rcases hg with hg|hg|hg
  ·exact .inl hg
  ·exact .inr (.inr (.inl hg))
  ·exact .inr (.inr (.inr (.inl hg))))) h1 tL).mono fun e w' ⟨he,vk,u1,u2,m,rs,gs,jJ,hm,R⟩=>?_
 obtain⟨q1,q2,q3,q4,q5,q6⟩:=ag6 (gs:=gs) (hs:=jJ) (rs:=rs) (by rw[R.l1,R.l0]) (by rw[R.l2,R.l0]);have hF:Fr (fun g=>g=b\/c.v1.ownBlock=some g\/c.v2.ownBlock=some g\/c.vr.ownBlock=some g\/c.vo.ownBlock=some g) w w':=R.K.F.mono (fun g _ hg=>by
  rcases hg with hg|hg|hg
  ·exact .inl hg
  ·exact .inr (.inl hg)
  ·exact .inr (.inr (.inl hg)))
 have wH:(List.zipWith cT gs rs).length=m:=by rw[aa8,R.l1,R.l0,Nat.min_self]
 refine⟨he,hF,u1,u2,vk,kls gs jJ rs,List.zipWith cT gs rs,h.PY (vo:=c.vo) (os:=c.os) hF R.K.L ?_ ?_ ?_ ?_ ?_ ?_ ?_ ?_ R.K.o1 R.K.o2 ?_ (fun g hg=>.inl hg) R.K.tD ?_ ?_ (fun p hp=>.inl hp) h.ia h.ie h.ix ?_ ?_ ?_⟩
 ·rw[q1,q2,R.l0];exact R.K.k1
 ·rw[q1,q3,R.l0];exact R.K.k2
 ·rw[wH];exact nC R.R h.gz.size
 ·refine⟨R.K.F.jI h.E.1 (fun g hg hx=>?_),fun p' iJ=>⟨(h.E.2 p' iJ).1,R.K.F.gy (h.E.2 p' iJ).2 (fun hx=>h.tX p' iJ ?_)⟩⟩
  ·rcases hx with hx|hx|hx
   ·exact h.bo (by rw[<-hx];exact hg)
   ·exact qG h.E.1 h.k1 (by decide) g hg hx
   ·exact qG h.E.1 h.k2 (by decide) g hg hx
  ·rcases hx with hx|hx|hx
   ·exact .inl hx
   ·exact .inr (.inr (.inl hx))
   ·exact .inr (.inr (.inr (.inl hx)))
 ·intro x hx
  obtain⟨j,b1,b2,b3⟩:=q6 x hx;exact⟨R.f1 j _ _ b1 b3,R.f2 j _ _ b2 b3,by have:=R.sh _ (bU b3);omega⟩
 ·rw[q4,q5];exact R.nd
 ·rw[q4,q5];exact fun g hg=>(R.ab g hg).1
 ·intro u hu
  rw[<-q2] at hu;obtain⟨x,hx,rfl⟩:=List.mem_map.1 hu;exact .inr ⟨x,List.mem_append_right _ hx,0,x.l.length,x.l.length,rfl,by omega⟩
 ·intro g hg
  exact .inr (iL R.R g hg).1
 ·intro g hg hx
  exact(R.rb g hx).2.1 hg
 ·intro g hg hx
  exact(R.rb g hx).2.2 hg
 ·rw[q1,R.l0];omega
 ·rw[wH];omega
 ·have:=h.no;omega
theorem Tryz.Ia:(prog.info? 39).map (·.size)=some 2:=by kernel_rfl
theorem St.P3{wz w:World}{b k:Nat}{c:Ct}(h:St wz w b k c){i:Nat}{p:Pn}(hp:c.ps[i]?=some p):∃g cp,c.vp=.slice (some ⟨g,0,none⟩) c.ps.length cp/\w.rangeAt g (i*2) [.pointer (some ⟨p.q,0,none⟩),.pointer (some ⟨p.gb,0,none⟩)]:=by
 obtain⟨ao,cp,e⟩:=gP h.kp;have hk:=h.kp;rw[e] at hk;have hi:=M.bP hp;obtain⟨g,ea,-,-,iU⟩:=nE hk (by omega);refine⟨g,cp,by rw[e,ea],fun j v hv=>?_⟩;have hj:j<2:=by have:=M.bP hv;simpa using this
 rw[iU (i*2+j) (by omega),lP PW 2 (fun _=>rfl) c.ps i j p hp hj];exact hv
theorem St.lin{wz w:World}{b k:Nat}{c:Ct}(h:St wz w b k c):∃ins:List (List Int),rD wz w c.vr ins/\ins.length=c.rg.length/\∀l∈ins,l.length<=1000000000:=by
 have cF:∀u∈c.rg,∃l:List Int,(∃a cp,u=.slice a l.length cp)/\lY wz w u l/\l.length<=1000000000:=fun u hu=>by
  rcases h.qJ u hu with rfl|⟨x,hx,i,n,cp,rfl,cY⟩
  ·exact⟨[],⟨none,0,rfl⟩,.inr (.inl (aZ.nil _ _)),by simp⟩
  ·obtain⟨h1,-,h3⟩:=h.li x hx
   have iX:((x.l.drop i).take n).length=n:=by rw[xE,List.length_drop];omega
   refine⟨(x.l.drop i).take n,⟨some ⟨x.g,i,none⟩,cp,by rw[iX]⟩,.inr (.inr ⟨x.g,i,cp,_,by rw[iX],h1,fun j y hy=>?_⟩),by omega⟩;have hj:j<n:=by have:=M.bP hy;omega
   rw[List.getElem?_take_of_lt hj,List.getElem?_drop] at hy;rw[nP,dV,hy]
   rfl
 obtain⟨ins,hl,cY⟩:∃ins:List (List Int),ins.length=c.rg.length/\∀(j:Nat) u l,c.rg[j]?=some u->ins[j]?=some l->(∃a cp,u=.slice a l.length cp)/\lY wz w u l/\l.length<=1000000000:=by
  have LN:∀us:List Value,(∀u∈us,∃l:List Int,(∃a cp,u=.slice a l.length cp)/\lY wz w u l/\l.length<=1000000000)->∃ins:List (List Int),ins.length=us.length/\∀(j:Nat) u l,us[j]?=some u->ins[j]?=some l->(∃a cp,u=.slice a l.length cp)/\lY wz w u l/\l.length<=1000000000:=fun us=>by
   induction us with
   |nil=>exact fun _=>⟨[],rfl,fun j u l hu=>by cases hu⟩
   |cons u us ih=>
    intro hk;obtain⟨l,h1⟩:=hk u (pC ..);obtain⟨ins,h2,h3⟩:=ih (fun u hu=>hk u (sZ _ hu));refine⟨l::ins,by simp[h2],fun j u' l' hu hl=>?_⟩
    cases j with
    |zero=>simp at hu hl;subst hu hl;exact h1
    |succ j=>exact h3 j u' l' (by simpa using hu) (by simpa using hl)
  exact LN c.rg cF
 obtain⟨ao,cp,e⟩:=gP h.kr;refine⟨ins,⟨ao,cp,by rw[e,hl],fun i l fq=>?_⟩,hl,fun l fI=>?_⟩
 ·have hi:=M.bP fq
  obtain⟨u,hu⟩:∃u,c.rg[i]?=some u:=⟨_,aS (by omega)⟩;obtain⟨⟨a,RX,rfl⟩,hW,-⟩:=cY i u l hu fq;have hk:=h.kr;rw[e] at hk;obtain⟨g,ea,-,-,iU⟩:=nE hk (by omega);refine⟨⟨g,0,none⟩,a,RX,ea,?_,hW⟩;have ea:(⟨g,0,none⟩:Addr).add i=⟨g,i,none⟩:=by unfold Addr.add;split<;>simp_all
  rw[ea,iU i (by omega),hu]
 ·obtain⟨j,hj⟩:=List.mem_iff_getElem?.1 fI
  have hi:=M.bP hj;obtain⟨u,hu⟩:∃u,c.rg[j]?=some u:=⟨_,aS (by omega)⟩;exact(cY j u l hu hj).2.2
end Go.Proofs.YtcnhfffgbamonaaGreat
