import Derived.Test.YtcnhfffgbamonaaGreatZ11
import Derived.Test.YtcnhfffgbamonaaGreatZ08
set_option maxRecDepth 100000
set_option maxHeartbeats 6400000
namespace Go.Proofs.YtcnhfffgbamonaaGreat
open Go.Proofs.Tryz
namespace H
structure Dr where
 aW:List Int
 lv:List dE
def iZ(d:Dr)(n c time:Int):Dr:=if n<0\/(d.aW.length:Int)<=n then d else ⟨d.aW.set n.toNat d.lv.length,d.lv++[⟨time,time,c⟩]⟩
def D5(lv:List dE)(i time:Int):List dE:=if 0<=i/\i<lv.length then lv.set i.toNat ⟨(lv.getD i.toNat bQ).f,time,(lv.getD i.toNat bQ).c⟩ else lv
def ig(time:Int)(d:Dr)(n:Int):Dr:=if n<0\/(d.aW.length:Int)<=n then d else ⟨d.aW,D5 d.lv (d.aW.getD n.toNat 0) time⟩
def fN(ts:List M.Tn):Nat->Dr
 | 0=>⟨List.replicate ts.length 0,[]⟩
 | k+1=>match ts[k]? with
  | some t=>if t.af=0 then iZ ⟨(fN ts k).aW.set k (-1),(fN ts k).lv⟩ k (M.cellsOf t) 0 else ⟨(fN ts k).aW.set k (-1),(fN ts k).lv⟩
  | none=>fN ts k
def kG(m:M.Md)(d:Dr):Nat->Dr
 | 0=>d
 | k+1=>match m.ag[k]? with
  | some o=>iZ ((cM o).foldl (ig ((k:Int)+1)) (kG m d k)) o.to (M.cellsOf (M.aq m o.to)) ((k:Int)+1)
  | none=>kG m d k
def fO(m:M.Md):Nat:=(fN m.au m.au.length).lv.length
def nL(m:M.Md):Dr:=m.aK.foldl (ig ((m.ag.length:Int)+1)) (kG m (fN m.au m.au.length) m.ag.length)
def qu(t:M.Tn):Bool:=t.af==0
def cy(ts:List M.Tn)(k:Nat):Nat:=((ts.take k).filter qu).length
theorem kd{α:Type}{ts:List α}{k:Nat}{t:α}(h:ts[k]?=some t):ts.take (k+1)=ts.take k++[t]:=by rw[List.take_add_one,h];rfl
theorem Rv{ts:List M.Tn}{k:Nat}{t:M.Tn}(h:ts[k]?=some t)(h0:t.af=0):cy ts (k+1)=cy ts k+1:=by
 unfold cy;rw[kd h,List.filter_append,nJ];simp[qu,h0]
theorem M8{ts:List M.Tn}{k:Nat}{t:M.Tn}(h:ts[k]?=some t)(h0:t.af≠0):cy ts (k+1)=cy ts k:=by
 unfold cy;rw[kd h,List.filter_append,nJ];simp[qu,h0]
theorem akP{ts:List M.Tn}{i j:Nat}(h:i<=j):cy ts i<=cy ts j:=by
 unfold cy;exact((List.take_sublist_take_left h).filter _).length_le
theorem FG{ts:List M.Tn}{i j:Nat}{t:M.Tn}(h:ts[i]?=some t)(h0:t.af=0)(rO:i<j):cy ts i<cy ts j:=by
 have:=Rv h h0;have:=akP (ts:=ts) (show i+1<=j by omega);omega
theorem D6(l:List Int)(i n:Nat)(x:Int):(l.set i x).getD n 0=if i=n/\n<l.length then x else l.getD n 0:=M.QU l i n x 0
theorem XU(l:List dE)(i n:Nat)(x:dE):(l.set i x).getD n bQ=if i=n/\n<l.length then x else l.getD n bQ:=by
 rw[List.getD,List.getD,ox];by_cases h:i=n
 ·subst h
  by_cases hl:i<l.length
  ·simp[hl]
  ·simp[hl]
 ·simp[h]
theorem XV(l:List dE)(x:dE)(n:Nat):(l++[x]).getD n bQ=if n=l.length then x else l.getD n bQ:=by
 rw[List.getD,List.getD];rcases Nat.lt_trichotomy n l.length with h|h|h
 ·rw[qT h,ak (by omega)]
 ·subst h;rw[ay rfl];simp
 ·rw[ak (by omega),db (by simp;omega),db (by omega)]
structure DT(ts:List M.Tn)(k:Nat)(d:Dr):Prop where
 ln:d.aW.length=ts.length
 ll:d.lv.length=cy ts k
 n0:∀(n:Nat) t,n<k->ts[n]?=some t->t.af=0->d.aW.getD n 0=cy ts n/\(d.lv.getD (cy ts n) bQ)=⟨0,0,M.cellsOf t⟩
 n1:∀(n:Nat) t,n<k->ts[n]?=some t->t.af≠0->d.aW.getD n 0 = -1
 l0:∀b,b<d.lv.length->∃(n:Nat) (t:M.Tn),n<k/\ts[n]?=some t/\t.af=0/\cy ts n=b
theorem xF(ts:List M.Tn):∀k,k<=ts.length->DT ts k (fN ts k)
 | 0,_=>⟨by simp[fN],by simp[fN,cy],fun n t h=>aN h (by omega),fun n t h=>aN h (by omega),fun b h=>aN h (by simp[fN])⟩
 | k+1,hk=>by
  have D:=xF ts k (by omega);have hx:ts[k]?=some ts[k]:=aS (by omega);generalize ts[k]=t at hx;have e:fN ts (k+1)=if t.af=0 then iZ ⟨(fN ts k).aW.set k (-1),(fN ts k).lv⟩ k (M.cellsOf t) 0 else ⟨(fN ts k).aW.set k (-1),(fN ts k).lv⟩:=by
   rw[fN,hx]
  rw[e];generalize fN ts k=d at *;by_cases h0:t.af=0
  ·rw[ay h0]
   have e2:iZ ⟨d.aW.set k (-1),d.lv⟩ k (M.cellsOf t) 0=⟨(d.aW.set k (-1)).set k d.lv.length,d.lv++[⟨0,0,M.cellsOf t⟩]⟩:=by
    unfold iZ;rw[ak (by simp only[kK,D.ln];omega)]
    rfl
   rw[e2];have hc:=Rv hx h0;refine⟨by simp[D.ln],by simp[D.ll,hc],fun n u hn hu k0=>?_,fun n u hn hu k0=>?_,fun b hb=>?_⟩
   ·show((d.aW.set k (-1)).set k _).getD n 0=_/\(d.lv++[_]).getD _ bQ=_
    rw[D6,D6,XV];by_cases c:k=n
    ·subst c
     rw[hx] at hu;injection hu with hu;subst hu;rw[ay ⟨rfl,by rw[kK,D.ln];omega⟩,ay D.ll.symm];exact⟨by rw[D.ll],rfl⟩
    ·rw[ak (by omega),ak (by omega)]
     have:=D.n0 n u (by omega) hu k0;have hl:=FG hu k0 (show n<k by omega);rw[ak (by rw[D.ll];omega)];exact this
   ·show((d.aW.set k (-1)).set k _).getD n 0=_
    rw[D6,D6];by_cases c:k=n
    ·subst c
     rw[hx] at hu;injection hu with hu;subst hu;exact aN h0 k0
    ·rw[ak (by omega),ak (by omega)]
     exact D.n1 n u (by omega) hu k0
   ·simp only[nJ,List.length_singleton] at hb
    rcases(show b<d.lv.length\/b=d.lv.length by omega) with h|h
    ·obtain⟨n,u,hn,hu,k0,he⟩:=D.l0 b h
     exact⟨n,u,by omega,hu,k0,he⟩
    ·exact⟨k,t,by omega,hx,h0,by rw[h,D.ll]⟩
  ·rw[ak h0]
   have hc:=M8 hx h0;refine⟨by simp[D.ln],by simp[D.ll,hc],fun n u hn hu k0=>?_,fun n u hn hu k0=>?_,fun b hb=>?_⟩
   ·show(d.aW.set k (-1)).getD n 0=_/\d.lv.getD _ bQ=_
    by_cases c:k=n
    ·subst c
     rw[hx] at hu;injection hu with hu;subst hu;exact aN k0 h0
    ·rw[D6,ak (by omega)]
     exact D.n0 n u (by omega) hu k0
   ·show(d.aW.set k (-1)).getD n 0=_
    rw[D6];by_cases c:k=n
    ·rw[ay ⟨c,by rw[D.ln];omega⟩]
    ·rw[ak (by omega)];exact D.n1 n u (by omega) hu k0
   ·obtain⟨n,u,hn,hu,k0,he⟩:=D.l0 b hb
    exact⟨n,u,by omega,hu,k0,he⟩
structure vN(time:Int)(d d':Dr):Prop where
 aW:d'.aW=d.aW
 len:d'.lv.length=d.lv.length
 f:∀b,(d'.lv.getD b bQ).f=(d.lv.getD b bQ).f
 c:∀b,(d'.lv.getD b bQ).c=(d.lv.getD b bQ).c
 t:∀b,(d'.lv.getD b bQ).t=(d.lv.getD b bQ).t\/(d'.lv.getD b bQ).t=time
theorem vN.refl(time:Int)(d:Dr):vN time d d:=⟨rfl,rfl,fun _=>rfl,fun _=>rfl,fun _=>.inl rfl⟩
theorem vN.trans{time:Int}{d d' XW:Dr}(h:vN time d d')(k:vN time d' XW):vN time d XW:=
 ⟨k.aW.trans h.aW,k.len.trans h.len,fun b=>(k.f b).trans (h.f b),fun b=>(k.c b).trans (h.c b),fun b=>by
  rcases k.t b with e|e
  ·rcases h.t b with e' | e'
   ·exact .inl (e.trans e')
   ·exact .inr (e.trans e')
  ·exact .inr e⟩
theorem Na(time:Int)(d:Dr)(n:Int):vN time d (ig time d n):=by
 unfold ig
 split
 ·exact vN.refl _ _
 ·unfold D5
  split
  ·have g:∀b i,(d.lv.set i ⟨(d.lv.getD i bQ).f,time,(d.lv.getD i bQ).c⟩).getD b bQ=if i=b/\b<d.lv.length then ⟨(d.lv.getD i bQ).f,time,(d.lv.getD i bQ).c⟩ else d.lv.getD b bQ:=fun b i=>XU _ _ _ _
   refine⟨rfl,by simp,fun b=>?_,fun b=>?_,fun b=>?_⟩
   ·show((d.lv.set _ _).getD b bQ).f=_
    rw[g];split
    ·rename_i h;rw[h.1]
    ·rfl
   ·show((d.lv.set _ _).getD b bQ).c=_
    rw[g];split
    ·rename_i h;rw[h.1]
    ·rfl
   ·show((d.lv.set _ _).getD b bQ).t=_\/((d.lv.set _ _).getD b bQ).t=_
    rw[g];split
    ·exact .inr rfl
    ·exact .inl rfl
  ·exact vN.refl _ _
theorem akQ{time:Int}{d:Dr}{n:Int}{b:Nat}(h0:0<=n)(h1:n<d.aW.length)(hb:d.aW.getD n.toNat 0=b)(hl:b<d.lv.length):((ig time d n).lv.getD b bQ).t=time:=by
 unfold ig;rw[ak (by omega),hb];unfold D5;rw[ay ⟨by omega,by omega⟩];show((d.lv.set _ _).getD b bQ).t=_;rw[XU,eC,ay ⟨rfl,hl⟩]
theorem D7(time:Int):∀(ns:List Int) (d:Dr),vN time d (ns.foldl (ig time) d)
 | [],_=>vN.refl _ _
 | n::ns,d=>(Na time d n).trans (D7 time ns _)
theorem Rx{time:Int}{n:Int}{b:Nat}:∀(ns:List Int) (d:Dr),n∈ns->0<=n->n<d.aW.length->d.aW.getD n.toNat 0=b->b<d.lv.length->((ns.foldl (ig time) d).lv.getD b bQ).t=time
 | [],_,h,_,_,_,_=>aN h (by simp)
 | k::ns,d,h,h0,h1,hb,hl=>by
  rw[List.foldl_cons];have e:=Na time d k;rcases List.mem_cons.mp h with rfl|h'
  ·have:=akQ (time:=time) h0 h1 hb hl
   rcases(D7 time ns (ig time d n)).t b with q|q
   ·rw[q];exact this
   ·exact q
  ·exact Rx ns _ h' h0 (by rw[e.aW];exact h1) (by rw[e.aW];exact hb) (by rw[e.len];exact hl)
structure FH(m:M.Md)(I k:Nat)(d:Dr):Prop where
 ln:d.aW.length=m.au.length
 ll:d.lv.length=I+k
 n0:∀(n:Nat) t,m.au[n]?=some t->t.af=0->d.aW.getD n 0=cy m.au n/\cy m.au n<I/\(d.lv.getD (cy m.au n) bQ).f=0/\(d.lv.getD (cy m.au n) bQ).c=M.cellsOf t
 n1:∀(i:Nat) o,i<k->m.ag[i]?=some o->d.aW.getD o.to.toNat 0=I+i/\(d.lv.getD (I+i) bQ).f=i+1/\(d.lv.getD (I+i) bQ).c=M.cellsOf (M.aq m o.to)
 n2:∀n:Nat,n<m.au.length->(M.aq m n).af≠0->(∀(i:Nat) o,i<k->m.ag[i]?=some o->o.to≠n)->d.aW.getD n 0 = -1
 ft:∀b,b<d.lv.length->(d.lv.getD b bQ).f<=(d.lv.getD b bQ).t/\(d.lv.getD b bQ).t<=k
 rd:∀(i:Nat) o (n:Int) (b:Nat),i<k->m.ag[i]?=some o->n∈cM o->d.aW.getD n.toNat 0=b->(i:Int)+1<=(d.lv.getD b bQ).t
 l0:∀b,b<I->∃(n:Nat) (t:M.Tn),m.au[n]?=some t/\t.af=0/\cy m.au n=b
theorem vO{m:M.Md}{n:Nat}(h:n<m.au.length):m.au[n]?=some (M.aq m n):=by
 have:=(O.kP (m:=m) (n:=(n:Int)) (by omega) (by omega)).1
 rwa [eC] at this
theorem Jb{m:M.Md}{i:Nat}{o:M.Op}(h:Ord m [] m.ag)(ho:m.ag[i]?=some o){n:Int}(hn:n∈cM o):0<=n/\n<m.au.length/\((M.aq m n).af=3->∃(j:Nat) (p:M.Op),j<i/\m.ag[j]?=some p/\p.to=n):=by
 have e:=XL ho;rw[e] at h;have:=(Ord.append.mp h).2.1 n hn;refine⟨this.1,this.2.1,fun k=>?_⟩;have h3:=this.2.2 k;rw[List.nil_append] at h3;obtain⟨p,hp,he⟩:=List.mem_map.mp h3;obtain⟨j,hj⟩:=mQ hp;have hl:=M.bP hj;rw[xE] at hl;rw[List.getElem?_take,ay (by omega)] at hj;exact⟨j,p,by omega,hj,he⟩
theorem XX{m:M.Md}(h:(m.ag.map (·.to)).Nodup){i j:Nat}{o p:M.Op}(ho:m.ag[i]?=some o)(hp:m.ag[j]?=some p)(e:o.to=p.to):i=j:=by
 have h1:=M.bP ho;have h2:=M.bP hp;rw[aS h1] at ho;injection ho with ho;rw[aS h2] at hp;injection hp with hp;have h':=List.pairwise_iff_getElem.mp h;rcases Nat.lt_trichotomy i j with c|c|c
 ·have:=h' i j (by simpa using h1) (by simpa using h2) c
  rw[List.getElem_map,List.getElem_map,ho,hp] at this;exact aN e this
 ·exact c
 ·have:=h' j i (by simpa using h2) (by simpa using h1) c
  rw[List.getElem_map,List.getElem_map,ho,hp] at this;exact aN e.symm this
theorem DT.ag{m:M.Md}{d:Dr}(D:DT m.au m.au.length d):FH m d.lv.length 0 d:=by
 refine⟨D.ln,rfl,fun n t hn h0=>?_,fun i o h=>aN h (by omega),fun n hn h0 _=>D.n1 n _ hn (vO hn) h0,fun b hb=>?_,fun i o n b h=>aN h (by omega),fun b hb=>?_⟩
 ·have hl:=M.bP hn
  obtain⟨e1,e2⟩:=D.n0 n t hl hn h0;refine⟨e1,by rw[D.ll];exact FG hn h0 hl,by rw[e2],by rw[e2]⟩
 ·obtain⟨n,t,hn,ht,h0,rfl⟩:=D.l0 b hb
  rw[(D.n0 n t hn ht h0).2];exact⟨Int.le_refl _,Int.le_refl _⟩
 ·obtain⟨n,t,hn,ht,h0,he⟩:=D.l0 b hb
  exact⟨n,t,ht,h0,he⟩
theorem FH.ext{m:M.Md}{I k:Nat}{d d':Dr}(D:FH m I k d)(E:vN ((k:Int)+1) d d'):d'.aW.length=m.au.length/\d'.lv.length=I+k /\
  (∀(n:Nat) t,m.au[n]?=some t->t.af=0->d'.aW.getD n 0=cy m.au n/\cy m.au n<I/\(d'.lv.getD (cy m.au n) bQ).f=0/\(d'.lv.getD (cy m.au n) bQ).c=M.cellsOf t) /\
  (∀(i:Nat) o,i<k->m.ag[i]?=some o->d'.aW.getD o.to.toNat 0=I+i/\(d'.lv.getD (I+i) bQ).f=i+1/\(d'.lv.getD (I+i) bQ).c=M.cellsOf (M.aq m o.to)) /\
  (∀n:Nat,n<m.au.length->(M.aq m n).af≠0->(∀(i:Nat) o,i<k->m.ag[i]?=some o->o.to≠n)->d'.aW.getD n 0 = -1) /\
  (∀b,b<d'.lv.length->(d'.lv.getD b bQ).f<=(d'.lv.getD b bQ).t/\(d'.lv.getD b bQ).t<=k+1) /\
  (∀(i:Nat) o (n:Int) (b:Nat),i<k->m.ag[i]?=some o->n∈cM o->d'.aW.getD n.toNat 0=b->b<d'.lv.length->(i:Int)+1<=(d'.lv.getD b bQ).t):=by
 refine⟨by rw[E.aW];exact D.ln,by rw[E.len];exact D.ll,fun n t hn h0=>?_,fun i o hi ho=>?_,fun n hn h0 h=>by rw[E.aW];exact D.n2 n hn h0 h,fun b hb=>?_,fun i o n b hi ho hn hb hl=>?_⟩
 ·rw[E.aW,E.f,E.c];exact D.n0 n t hn h0
 ·rw[E.aW,E.f,E.c];exact D.n1 i o hi ho
 ·rw[E.len] at hb
  have:=D.ft b hb;rw[E.f];rcases E.t b with e|e<;>rw[e]<;>omega
 ·rw[E.len] at hl
  rw[E.aW] at hb;have:=D.rd i o n b hi ho hn hb;rcases E.t b with e|e<;>rw[e]<;>omega
theorem Cl{m:M.Md}{C:List (List Int)}(S:dH m C){d0:Dr}{I:Nat}(D0:FH m I 0 d0):∀k,k<=m.ag.length->FH m I k (kG m d0 k)
 | 0,_=>D0
 | k+1,hk=>by
  have D:=Cl S D0 k (by omega);have hx:m.ag[k]?=some m.ag[k]:=aS (by omega);generalize m.ag[k]=o at hx;have e:kG m d0 (k+1)=iZ ((cM o).foldl (ig ((k:Int)+1)) (kG m d0 k)) o.to (M.cellsOf (M.aq m o.to)) ((k:Int)+1):=by
   rw[kG,hx]
  rw[e];generalize kG m d0 k=d at *;have E:=D7 ((k:Int)+1) (cM o) d;have R:∀n b,n∈cM o->0<=n->n<d.aW.length->d.aW.getD n.toNat 0=(b:Nat)->b<d.lv.length->(((cM o).foldl (ig ((k:Int)+1)) d).lv.getD b bQ).t=(k:Int)+1:=fun n b=>Rx (cM o) d;have En:=E.aW;have El:=E.len;obtain⟨x1,x2,x3,x4,x5,x6,x7⟩:=D.ext E;generalize (cM o).foldl (ig ((k:Int)+1)) d=d' at *;obtain⟨t0,t1,t3⟩:=S.to o (bU hx);have e2:iZ d' o.to (M.cellsOf (M.aq m o.to)) ((k:Int)+1)=⟨d'.aW.set o.to.toNat d'.lv.length,d'.lv++[⟨(k:Int)+1,(k:Int)+1,M.cellsOf (M.aq m o.to)⟩]⟩:=by
   unfold iZ;rw[ak (by rw[x1];omega)]
  rw[e2];have gn:∀n,(d'.aW.set o.to.toNat d'.lv.length).getD n 0=if o.to.toNat=n/\n<m.au.length then ((I+k:Nat):Int) else d'.aW.getD n 0:=fun n=>by rw[D6,x1,x2]
  have gl:∀b,(d'.lv++[(⟨(k:Int)+1,(k:Int)+1,M.cellsOf (M.aq m o.to)⟩:dE)]).getD b bQ=if b=I+k then ⟨(k:Int)+1,(k:Int)+1,M.cellsOf (M.aq m o.to)⟩ else d'.lv.getD b bQ:=fun b=>by rw[XV,x2]
  refine⟨by simp[x1],by simp[x2];omega,fun n t hn h0=>?_,fun i p hi hp=>?_,fun n hn h0 h=>?_,fun b hb=>?_,fun i p n b hi hp hn hb=>?_,D.l0⟩
  ·show(d'.aW.set _ _).getD n 0=_/\_/\((d'.lv++[_]).getD _ bQ).f=_/\((d'.lv++[_]).getD _ bQ).c=_
   have:=x3 n t hn h0;have ne:¬(o.to.toNat=n/\n<m.au.length):=by
    rintro ⟨e,hl⟩;have:=vO hl;rw[hn] at this;injection this with this;have e':(n:Int)=o.to:=by omega
    rw[e'] at this;rw[<-this] at t3;omega
   rw[gn,ak ne,gl,ak (by omega)];exact this
  ·show(d'.aW.set _ _).getD _ 0=_/\((d'.lv++[_]).getD _ bQ).f=_/\((d'.lv++[_]).getD _ bQ).c=_
   rw[gn,gl];rcases(show i<k\/i=k by omega) with h|h
   ·have ey:¬o.to=p.to:=fun he=>by have:=XX S.nd hx hp he;omega
    have:=S.to p (bU hp);rw[ak (by omega),ak (by omega)];exact x4 i p h hp
   ·subst h
    rw[hx] at hp;injection hp with hp;subst hp;rw[ay ⟨rfl,by omega⟩,ay rfl];exact⟨by omega,rfl,rfl⟩
  ·show(d'.aW.set _ _).getD n 0=_
   rw[gn,ak (by have:=h k o (by omega) hx;omega)];exact x5 n hn h0 fun i p hi hp=>h i p (by omega) hp
  ·show((d'.lv++[_]).getD b bQ).f<=((d'.lv++[_]).getD b bQ).t/\((d'.lv++[_]).getD b bQ).t<=_
   rw[gl]
   split
   ·show(k:Int)+1<=(k:Int)+1/\(k:Int)+1<=((k+1:Nat):Int)
    omega
   ·have oz:b<d'.lv.length:=by simp at hb;omega
    have:=x6 b oz;omega
  ·show _<=((d'.lv++[_]).getD b bQ).t
   have oz:(d'.aW.set o.to.toNat d'.lv.length).getD n.toNat 0=b:=hb;obtain⟨n0,n1,n3⟩:=Jb S.xC hp hn;have ey:n≠o.to:=by
    intro he;obtain⟨j,q,hj,hq,Ry⟩:=n3 (by rw[he];exact t3);have:=XX S.nd hq hx (by rw[Ry,he]);omega
   rw[gn,ak (by omega)] at oz;have dh:b<d'.lv.length:=by
    rw[x2];by_cases k0:(M.aq m n).af=0
    ·have:=x3 n.toNat _ (O.kP n0 n1).1 k0
     omega
    ·by_cases k3:(M.aq m n).af=3
     ·obtain⟨j,q,hj,hq,Ry⟩:=n3 k3
      have:=x4 j q (by omega) hq;rw[Ry] at this;omega
     ·have:=x5 n.toNat (by omega) (by rw[uw n0];exact k0) (fun j q hj hq he=>by
       have:=S.to q (bU hq);rw[he,uw n0] at this;omega)
      omega
   rw[gl,ak (by omega)];rcases(show i<k\/i=k by omega) with h|h
   ·exact x7 i p n b h hp hn oz dh
   ·subst h
    rw[hx] at hp;injection hp with hp;subst hp;have:=R n b hn n0 (by rw[<-En,x1];omega) (by rw[<-En];exact oz) (by rw[<-El];exact dh);omega
structure Pn(m:M.Md)(I:Nat)(d:Dr):Prop where
 ln:d.aW.length=m.au.length
 ll:d.lv.length=I+m.ag.length
 n0:∀(n:Nat) t,m.au[n]?=some t->t.af=0->d.aW.getD n 0=cy m.au n/\cy m.au n<I/\(d.lv.getD (cy m.au n) bQ).f=0/\(d.lv.getD (cy m.au n) bQ).c=M.cellsOf t
 n1:∀(i:Nat) o,m.ag[i]?=some o->d.aW.getD o.to.toNat 0=I+i/\(d.lv.getD (I+i) bQ).f=i+1/\(d.lv.getD (I+i) bQ).c=M.cellsOf (M.aq m o.to)
 n2:∀n:Nat,n<m.au.length->(M.aq m n).af≠0->(∀(i:Nat) o,m.ag[i]?=some o->o.to≠n)->d.aW.getD n 0 = -1
 ft:∀b,b<d.lv.length->(d.lv.getD b bQ).f<=(d.lv.getD b bQ).t/\(d.lv.getD b bQ).t<=m.ag.length+1
 rd:∀(i:Nat) o (n:Int) (b:Nat),m.ag[i]?=some o->n∈cM o->d.aW.getD n.toNat 0=b->b<d.lv.length->(i:Int)+1<=(d.lv.getD b bQ).t
 ou:∀(n:Int) (b:Nat),n∈m.aK->d.aW.getD n.toNat 0=b->b<d.lv.length->(d.lv.getD b bQ).t=m.ag.length+1
 l0:∀b,b<I->∃(n:Nat) (t:M.Tn),m.au[n]?=some t/\t.af=0/\cy m.au n=b
theorem Nb(m:M.Md):fO m=cy m.au m.au.length:=(xF m.au m.au.length (bj _)).ll
theorem Az{m:M.Md}{C:List (List Int)}(S:dH m C):Pn m (fO m) (nL m):=by
 have D:=Cl S (xF m.au m.au.length (bj _)).ag m.ag.length (bj _);show Pn m (fN m.au m.au.length).lv.length (nL m);unfold nL;generalize (fN m.au m.au.length).lv.length=I at *;generalize kG m (fN m.au m.au.length) m.ag.length=d at *;have E:=D7 ((m.ag.length:Int)+1) m.aK d;have R:∀n b,n∈m.aK->0<=n->n<d.aW.length->d.aW.getD n.toNat 0=(b:Nat)->b<d.lv.length->((m.aK.foldl (ig ((m.ag.length:Int)+1)) d).lv.getD b bQ).t=(m.ag.length:Int)+1:=fun n b=>Rx m.aK d;have En:=E.aW;have El:=E.len;obtain⟨x1,x2,x3,x4,x5,x6,x7⟩:=D.ext E;generalize m.aK.foldl (ig ((m.ag.length:Int)+1)) d=d' at *;refine⟨x1,x2,x3,fun i o ho=>x4 i o (M.bP ho) ho,fun n hn h0 h=>x5 n hn h0 fun i o _ ho=>h i o ho,x6,fun i o n b ho hn hb hl=>x7 i o n b (M.bP ho) ho hn hb hl,fun n b hn hb hl=>?_,D.l0⟩;obtain⟨a,-⟩:=S.aK n hn;exact R n b hn a.1 (by rw[<-En,x1];exact a.2.1) (by rw[<-En];exact hb) (by rw[<-El];exact hl)
end H
namespace H
def part(cells:List Int)(b:Bf):List Int:=(cells.drop b.a.toNat).take b.c.toNat
def pJ(cells:List Int)(p:Nat)(l:List Int):List Int:=cells.take p++(l++cells.drop (p+l.length))
theorem Rz{cells:List Int}{p:Nat}{l:List Int}(h:p+l.length<=cells.length):(pJ cells p l).length=cells.length:=by simp[pJ];omega
theorem XY{cells:List Int}{p:Nat}{l:List Int}(h:p+l.length<=cells.length)(i:Nat):(pJ cells p l)[i]?=if i<p then cells[i]? else if i<p+l.length then l[i-p]? else cells[i]?:=by
 unfold pJ;by_cases h1:i<p
 ·rw[ay h1,qT (by simp;omega),List.getElem?_take,ay h1]
 ·rw[ak h1,og (by simp;omega)]
  have e:(cells.take p).length=p:=by simp;omega
  rw[e];by_cases h2:i<p+l.length
  ·rw[ay h2,qT (by omega)]
  ·rw[ak h2,og (by omega),List.getElem?_drop]
   congr 1;omega
theorem Nc(cells:List Int)(b:Bf)(i:Nat):(part cells b)[i]?=if i<b.c.toNat then cells[b.a.toNat+i]? else none:=by
 unfold part;rw[List.getElem?_take]
 split
 ·rw[List.getElem?_drop]
 ·rfl
theorem XZ{cells:List Int}{b:Bf}(h0:0<=b.a)(h1:0<=b.c)(h:b.e<=cells.length):(part cells b).length=b.c.toNat:=by
 unfold part Bf.e at *;simp;omega
theorem X0{cells:List Int}{b:Bf}{l:List Int}(h:b.a.toNat+l.length<=cells.length)(hl:b.c.toNat=l.length):part (pJ cells b.a.toNat l) b=l:=by
 apply nM
 intro i;rw[Nc,XY h];by_cases c:i<b.c.toNat
 ·rw[ay c,ak (by omega),ay (by omega)]
  congr 1;omega
 ·rw[ak c,db (by omega)]
theorem X1{cells:List Int}{b:Bf}{p:Nat}{l:List Int}(h:p+l.length<=cells.length)(ha:b.a.toNat+b.c.toNat<=p\/p+l.length<=b.a.toNat):part (pJ cells p l) b=part cells b:=by
 apply nM
 intro i;rw[Nc,Nc];by_cases c:i<b.c.toNat
 ·rw[ay c,ay c,XY h]
  by_cases c1:b.a.toNat+i<p
  ·rw[ay c1]
  ·rw[ak c1,ak (by omega)]
 ·rw[ak c,ak c]
theorem Pn.df{m:M.Md}{I:Nat}{d:Dr}(P:Pn m I d){n b:Nat}(hn:n<m.au.length)(hb:d.aW.getD n 0=(b:Int)) :
  ((M.aq m n).af=0/\b=cy m.au n/\b<I)\/∃(i:Nat) (o:M.Op),m.ag[i]?=some o/\o.to=n/\b=I+i:=by
 by_cases k0:(M.aq m n).af=0
 ·have:=P.n0 n _ (vO hn) k0
  exact .inl ⟨k0,by omega,by omega⟩
 ·by_cases h:∃(i:Nat) (o:M.Op),m.ag[i]?=some o/\o.to=n
  ·obtain⟨i,o,ho,he⟩:=h
   refine .inr ⟨i,o,ho,he,?_⟩;have:=(P.n1 i o ho).1;rw[he,eC] at this;omega
  ·have:=P.n2 n hn k0 fun i o ho he=>h ⟨i,o,ho,he⟩
   omega
theorem Pn.lt{m:M.Md}{I:Nat}{d:Dr}(P:Pn m I d){n b:Nat}(hn:n<m.au.length)(hb:d.aW.getD n 0=(b:Int)):b<d.lv.length:=by
 have hl:=P.ll;rcases P.df hn hb with⟨-,-,h⟩|⟨i,o,ho,-,h⟩
 ·omega
 ·have:=M.bP ho;omega
theorem Pn.cells{m:M.Md}{I:Nat}{d:Dr}(P:Pn m I d){n b:Nat}(hn:n<m.au.length)(hb:d.aW.getD n 0=(b:Int)):(d.lv.getD b bQ).c=M.cellsOf (M.aq m n):=by
 rcases P.df hn hb with⟨k0,rfl,-⟩|⟨i,o,ho,he,rfl⟩
 ·exact(P.n0 n _ (vO hn) k0).2.2.2
 ·rw[(P.n1 i o ho).2.2,he]
theorem Pn.who{m:M.Md}{C:List (List Int)}(S:dH m C){I:Nat}{d:Dr}(P:Pn m I d){b:Nat}(hb:b<d.lv.length):∃n:Nat,n<m.au.length/\d.aW.getD n 0=(b:Int)/\(d.lv.getD b bQ).c=M.cellsOf (M.aq m n):=by
 have hl:=P.ll;by_cases c:b<I
 ·obtain⟨n,t,hn,k0,rfl⟩:=P.l0 b c
  have h:=M.bP hn;have:=P.n0 n t hn k0;exact⟨n,h,this.1,P.cells h this.1⟩
 ·have hi:b-I<m.ag.length:=by omega
  have ho:=aS hi;generalize m.ag[b-I]=o at ho;obtain⟨t0,t1,-⟩:=S.to o (bU ho);have:=(P.n1 _ o ho).1;refine⟨o.to.toNat,by omega,by omega,P.cells (by omega) (by omega)⟩
theorem Pn.lr{m:M.Md}{C:List (List Int)}(S:dH m C){I:Nat}{d:Dr}(P:Pn m I d):∀b,b<d.lv.length->1<=(d.lv.getD b bQ).c/\(d.lv.getD b bQ).c<=512:=by
 intro b hb;obtain⟨n,hn,-,e⟩:=P.who S hb;rw[e];have D:=S.kQ n (by omega) (by omega);refine⟨?_,D.mn⟩;unfold M.cellsOf;have h1:=D.h0;have h2:=D.w0;have h3:=D.c0;have p1:0<(M.aq m n).h*(M.aq m n).w:=Int.mul_pos (by omega) (by omega);have:0<(M.aq m n).h*(M.aq m n).w*(M.aq m n).c:=Int.mul_pos p1 (by omega);omega
structure Al(m:M.Md)(C:List (List Int))(I:Nat)(d:Dr)(ld:List Bf):Prop where
 S:dH m C
 P:Pn m I d
 L:XT d.lv ld
theorem FI{m:M.Md}{C:List (List Int)}(S:dH m C):Al m C (fO m) (nL m) (fg (nL m).lv):=
 ⟨S,Az S,akO fun b hb=>((Az S).lr S b hb).1⟩
structure AI(m:M.Md)(C:List (List Int))(d:Dr)(ld:List Bf)(k:Nat)(cells:List Int):Prop where
 len:(cells.length:Int)=gU ld
 ok:∀n b:Nat,n<m.au.length->d.aW.getD n 0=(b:Int)->(d.lv.getD b bQ).f<=k->(k:Int)+1<=(d.lv.getD b bQ).t->part cells (ld.getD b aV)=D.bW C n
theorem Al.gI{m:M.Md}{C:List (List Int)}{I:Nat}{d:Dr}{ld:List Bf}(A:Al m C I d ld){b:Nat}(hb:b<d.lv.length):0<=(ld.getD b aV).a/\1<=(ld.getD b aV).c/\(ld.getD b aV).c<=512/\(ld.getD b aV).e<=gU ld:=by
 have:=A.P.lr A.S b hb;rw[A.L.c b hb];exact⟨A.L.a b hb,this.1,this.2,A.L.Ck b hb⟩
def uy(m:M.Md)(d:Dr)(ld:List Bf)(cells:List Int)(n:Int):List Int:=
 if 0<=n/\n<d.aW.length/\0<=d.aW.getD n.toNat 0 then part cells (ld.getD (d.aW.getD n.toNat 0).toNat aV) else (M.aq m n).data
theorem X2{m:M.Md}{C:List (List Int)}{I:Nat}{d:Dr}{ld:List Bf}(A:Al m C I d ld){cells:List Int}{n:Int}{k:Nat}(hA:AI m C d ld k cells)(h0:0<=n)(h1:n<m.au.length)
  (h2:(M.aq m n).af≠2) (h3:(M.aq m n).af=3->∃(j:Nat) (p:M.Op),j<k/\m.ag[j]?=some p/\p.to=n) (hu:0<cJ m n)
  (hr:∀b:Nat,d.aW.getD n.toNat 0=b->b<d.lv.length->(k:Int)+1<=(d.lv.getD b bQ).t):uy m d ld cells n=D.bW C n:=by
 have S:=A.S;have P:=A.P;have en:((n.toNat:Nat):Int)=n:=uw h0;have ln:=P.ln;unfold uy;have kk:=S.Cg n h0 h1;by_cases k0:(M.aq m n).af=0
 ·have hb:=P.n0 n.toNat _ (O.kP h0 h1).1 k0
  rw[ay ⟨h0,by omega,by omega⟩,hb.1,eC];have:=hA.ok n.toNat _ (by omega) hb.1 (by rw[hb.2.2.1];omega) (hr _ hb.1 (P.lt (by omega) hb.1));rw[en] at this;exact this
 ·by_cases k3:(M.aq m n).af=3
  ·obtain⟨j,p,hj,hp,he⟩:=h3 k3
   have hb:=P.n1 j p hp;rw[he] at hb;have oz:d.aW.getD n.toNat 0=((I+j:Nat):Int):=by rw[hb.1];omega
   rw[ay ⟨h0,by omega,by omega⟩,oz,eC];have:=hA.ok n.toNat _ (by omega) oz (by rw[hb.2.1];omega) (hr _ oz (P.lt (by omega) oz));rw[en] at this;exact this
  ·have:=P.n2 n.toNat (by omega) (by rw[en];exact k0) fun i o ho he=>by
    have:=(S.to o (bU ho)).2.2;rw[he,en] at this;exact k3 this
   clear h3 hr;rw[ak (by omega)];exact(S.data n hu (by omega)).symm
theorem akS{m:M.Md}{C:List (List Int)}{I:Nat}{d:Dr}{ld:List Bf}(A:Al m C I d ld){cells:List Int}{k:Nat}(hA:AI m C d ld k cells){o:M.Op}(ho:m.ag[k]?=some o) :
  uy m d ld cells o.a=D.bW C o.a/\(M.dr o.af=true->uy m d ld cells o.b=D.bW C o.b):=by
 have hm:=bU ho;have cF:∀n∈cM o,(M.aq m n).af≠2->uy m d ld cells n=D.bW C n:=by
  intro n hn h2;obtain⟨h0,h1,h3⟩:=Jb A.S.xC ho hn;exact X2 A hA h0 h1 h2 h3 (tf.mpr (.inl ⟨o,hm,hn⟩)) fun b hb hl=>A.P.rd k o n b ho hn hb hl
 exact⟨cF _ (vL o) (A.S.Aw o hm).1,fun h=>cF _ (Rf h (Rg h)) ((A.S.Aw o hm).2 h)⟩
theorem akT{m:M.Md}{C:List (List Int)}{I:Nat}{d:Dr}{ld:List Bf}(A:Al m C I d ld){cells:List Int}{k:Nat}(hA:AI m C d ld k cells){o:M.Op}(ho:m.ag[k]?=some o) :
  O.jQ m o (uy m d ld cells o.a) (uy m d ld cells o.b)/\O.iu m o (uy m d ld cells o.a) (uy m d ld cells o.b)=D.bW C o.to:=by
 have hm:=bU ho;obtain⟨ea,eb⟩:=akS A hA ho;have F:=A.S.fi o hm;rw[ea,A.S.eq o hm]
 cases h2:M.dr o.af with
 | true=>rw[eb h2];exact⟨F,rfl⟩
 | false=>exact⟨Re F h2,Rb m h2 _ _ _⟩
theorem akU{m:M.Md}{C:List (List Int)}{I:Nat}{d:Dr}{ld:List Bf}(A:Al m C I d ld){cells:List Int}(hA:AI m C d ld m.ag.length cells){n:Int}(hn:n∈m.aK):uy m d ld cells n=D.bW C n:=by
 obtain⟨a,h2⟩:=A.S.aK n hn;refine X2 A hA a.1 a.2.1 h2 (fun k3=>?_) (tf.mpr (.inr hn)) fun b hb hl=>by rw[A.P.ou n b hn hb hl];omega
 obtain⟨p,hp,he⟩:=List.mem_map.mp (a.2.2 k3);obtain⟨j,hj⟩:=mQ hp;exact⟨j,p,M.bP hj,hj,he⟩
theorem X3{m:M.Md}{C:List (List Int)}{I:Nat}{d:Dr}{ld:List Bf}(A:Al m C I d ld){k:Nat}{o:M.Op}(ho:m.ag[k]?=some o) :
  0<=o.to/\o.to<d.aW.length/\d.aW.getD o.to.toNat 0=((I+k:Nat):Int)/\I+k<d.lv.length/\((D.bW C o.to).length:Int)=(ld.getD (I+k) aV).c:=by
 have hm:=bU ho;obtain⟨t0,t1,t3⟩:=A.S.to o hm;have hb:d.aW.getD o.to.toNat 0=((I+k:Nat):Int):=by have:=(A.P.n1 k o ho).1;omega
 have hl:I+k<d.lv.length:=A.P.lt (by omega) hb;refine⟨t0,by rw[A.P.ln];exact t1,hb,hl,?_⟩;rw[A.L.c _ hl,(A.P.n1 k o ho).2.2];exact A.S.s9 o.to t0 t1 (by omega)
theorem AI.step{m:M.Md}{C:List (List Int)}{I:Nat}{d:Dr}{ld:List Bf}(A:Al m C I d ld){cells:List Int}{k:Nat}(hA:AI m C d ld k cells){o:M.Op}(ho:m.ag[k]?=some o) :
  AI m C d ld (k+1) (pJ cells (ld.getD (I+k) aV).a.toNat (D.bW C o.to)):=by
 obtain⟨t0,t1,hb,hl,hc⟩:=X3 A ho;obtain⟨f1,f2,-,f3⟩:=A.gI hl;have iX:=hA.len;unfold Bf.e at f3;have hw:(ld.getD (I+k) aV).a.toNat+(D.bW C o.to).length<=cells.length:=by omega
 refine⟨by rw[Rz hw];exact iX,fun n b hn Jc hf ht=>?_⟩;by_cases e:b=I+k
 ·subst e
  rcases A.P.df hn Jc with⟨-,-,h⟩|⟨i,p,hp,he,hi⟩
  ·omega
  ·have:i=k:=by omega
   subst this;rw[ho] at hp;injection hp with hp;subst hp;rw[<-he];exact X0 hw (by omega)
 ·have dh:=A.P.lt hn Jc
  obtain⟨g1,g2,-,g3⟩:=A.gI dh;have vP:(d.lv.getD (I+k) bQ).f=k+1:=(A.P.n1 k o ho).2.1;have hbt:=(A.P.ft _ hl).1;have hfk:(d.lv.getD b bQ).f<=k:=by
   rcases A.P.df hn Jc with⟨k0,rfl,-⟩|⟨i,p,hp,he,rfl⟩
   ·rw[(A.P.n0 n _ (vO hn) k0).2.2.1];omega
   ·rw[(A.P.n1 i p hp).2.1] at hf ⊢
    have:i≠k:=fun h=>e (by rw[h]);omega
  have hm:mR (d.lv.getD b bQ) (d.lv.getD (I+k) bQ)=true:=by
   unfold mR;rw[eG (by omega),eG (by omega)];rfl
  have ap:=A.L.apart b (I+k) dh hl e hm;rw[X1 hw (by unfold Bf.e at ap;omega)];exact hA.ok n b hn Jc hfk (by omega)
structure AJ(m:M.Md)(C:List (List Int))(ld:List Bf)(j:Nat)(cells:List Int):Prop where
 len:(cells.length:Int)=gU ld
 ok:∀(n:Nat) t,m.au[n]?=some t->t.af=0->cy m.au n<j->part cells (ld.getD (cy m.au n) aV)=D.bW C n
theorem AJ.start(m:M.Md)(C:List (List Int))(ld:List Bf):AJ m C ld 0 (List.replicate (gU ld).toNat 0):=
 ⟨by have:=Cj ld ld.length;unfold gU;simp;omega,fun n t _ _ h=>aN h (by omega)⟩
def D8(m:M.Md)(C ins:List (List Int)):Prop:=∀(n:Nat) t,m.au[n]?=some t->t.af=0->ins[cy m.au n]?=some (D.bW C n)
theorem X4{m:M.Md}{C:List (List Int)}{I:Nat}{d:Dr}{ld:List Bf}(A:Al m C I d ld){ins:List (List Int)}(hi:D8 m C ins){j:Nat}{l:List Int}(hj:j<I)(hl:ins[j]?=some l) :
  j<d.lv.length/\(l.length:Int)=(ld.getD j aV).c:=by
 obtain⟨n,t,hn,k0,rfl⟩:=A.P.l0 j hj;have h:=M.bP hn;have hb:=A.P.n0 n t hn k0;have dh:=A.P.lt h hb.1;rw[hi n t hn k0] at hl;injection hl with hl;refine⟨dh,?_⟩;have e:t=M.aq m n:=by have:=vO h;rw[hn] at this;injection this
 rw[A.L.c _ dh,hb.2.2.2,<-hl,e];exact A.S.s9 n (by omega) (by omega) (by rw[<-e];omega)
theorem akX{ts:List M.Tn}{n n':Nat}{t t':M.Tn}(h:ts[n]?=some t)(h0:t.af=0)(h':ts[n']?=some t')(MY:t'.af=0)(e:cy ts n=cy ts n'):n=n':=by
 rcases Nat.lt_trichotomy n n' with c|c|c
 ·have:=FG h h0 c;omega
 ·exact c
 ·have:=FG h' MY c;omega
theorem AJ.step{m:M.Md}{C:List (List Int)}{I:Nat}{d:Dr}{ld:List Bf}(A:Al m C I d ld){ins:List (List Int)}(hi:D8 m C ins){j:Nat}{cells l:List Int}(hA:AJ m C ld j cells)(hj:j<I)(hl:ins[j]?=some l) :
  AJ m C ld (j+1) (pJ cells (ld.getD j aV).a.toNat l):=by
 obtain⟨dh,hc⟩:=X4 A hi hj hl;obtain⟨f1,f2,-,f3⟩:=A.gI dh;have iX:=hA.len;unfold Bf.e at f3;have hw:(ld.getD j aV).a.toNat+l.length<=cells.length:=by omega
 refine⟨by rw[Rz hw];exact iX,fun n t hn k0 bF=>?_⟩;by_cases e:cy m.au n=j
 ·have:=hi n t hn k0
  rw[e,hl] at this;injection this with this;rw[e,<-this];exact X0 hw (by omega)
 ·have hb:=A.P.n0 n t hn k0
  have RA:=A.P.lt (M.bP hn) hb.1;obtain⟨g1,g2,-,g3⟩:=A.gI RA;obtain⟨n',t',oU,Fu,he⟩:=A.P.l0 j hj;have oz:=A.P.n0 n' t' oU Fu;rw[he] at oz;have hm:mR (d.lv.getD (cy m.au n) bQ) (d.lv.getD j bQ)=true:=by
   unfold mR;have h1:=(A.P.ft _ dh).1;have h2:=(A.P.ft _ RA).1;rw[eG (by omega),eG (by omega)];rfl
  have ap:=A.L.apart _ j RA dh e hm;rw[X1 hw (by unfold Bf.e at ap;omega)];exact hA.ok n t hn k0 (by omega)
theorem AJ.done{m:M.Md}{C:List (List Int)}{I:Nat}{d:Dr}{ld:List Bf}(A:Al m C I d ld){cells:List Int}(hA:AJ m C ld I cells):AI m C d ld 0 cells:=by
 refine⟨hA.len,fun n b hn hb hf _=>?_⟩;rcases A.P.df hn hb with⟨k0,rfl,h⟩|⟨i,p,hp,he,rfl⟩
 ·exact hA.ok n _ (vO hn) k0 h
 ·rw[(A.P.n1 i p hp).2.1] at hf
  omega
def mS(ts uz:List M.Tn):Prop:=uz.length=ts.length/\∀(n:Nat) t t',ts[n]?=some t->uz[n]?=some t'->(t.af=0↔t'.af=0)/\M.cellsOf t'=M.cellsOf t
theorem mS.refl(ts:List M.Tn):mS ts ts:=⟨rfl,fun n t t' h h'=>by rw[h] at h';injection h' with h';subst h';exact⟨Iff.rfl,rfl⟩⟩
theorem mS.trans{a b c:List M.Tn}(h:mS a b)(k:mS b c):mS a c:=by
 refine⟨k.1.trans h.1,fun n t t'' ht D9=>?_⟩;have hl:=M.bP ht;obtain⟨u,hb⟩:∃u,b[n]?=some u:=⟨_,aS (by rw[h.1];exact hl)⟩;have h1:=h.2 n t _ ht hb;have h2:=k.2 n _ t'' hb D9;exact⟨h1.1.trans h2.1,h2.2.trans h1.2⟩
theorem mS.filter:∀{ts uz:List M.Tn},mS ts uz->(uz.filter qu).map M.cellsOf=(ts.filter qu).map M.cellsOf
 | [],[],_=>rfl
 | [],_::_,h=>aN h.1 (by simp)
 | _::_,[],h=>aN h.1 (by simp)
 | t::ts,t'::uz,h=>by
  have h0:=h.2 0 t t' rfl rfl;have hk:mS ts uz:=⟨by have:=h.1;simpa using this,fun n u u' hu uA=>h.2 (n+1) u u' (by simpa using hu) (by simpa using uA)⟩;have ih:=hk.filter;have e:qu t'=qu t:=by
   unfold qu;by_cases c:t.af=0
   ·rw[c,h0.1.mp c]
   ·rw[beq_eq_false_iff_ne.mpr c,beq_eq_false_iff_ne.mpr (fun h'=>c (h0.1.mpr h'))]
  rw[List.filter_cons,List.filter_cons,e]
  split
  ·simp[h0.2,ih]
  ·exact ih
theorem mS.take{ts uz:List M.Tn}(h:mS ts uz)(k:Nat):mS (ts.take k) (uz.take k):=by
 refine⟨by simp[h.1],fun n t t' ht ij=>?_⟩;rw[List.getElem?_take] at ht ij
 split at ht
 ·rename_i c
  rw[ay c] at ij;exact h.2 n t t' ht ij
 ·exact aN ht (by simp)
theorem mS.cy{ts uz:List M.Tn}(h:mS ts uz)(k:Nat):cy uz k=cy ts k:=by
 have:=congrArg List.length (h.take k).filter
 simpa[H.cy] using this
theorem akZ(m:M.Md):D.BZ m=(m.au.filter qu).map M.cellsOf:=rfl
theorem ak0{m:M.Md}{n:Int}{l:List Int}(h0:0<=n)(h1:n<m.au.length)(h3:(M.aq m n).af=3):mS m.au (oX m n l).au:=by
 refine⟨by simp[oX],fun k t t' ht ij=>?_⟩;have hl:=M.bP ht;have e:=vO (m:=m) hl;have e':=vO (m:=oX m n l) (n:=k) (by simp[oX];exact hl);rw[ht] at e;injection e with e;rw[ij] at e';injection e' with e';rw[e,e',MV l h0 h1]
 split
 ·rename_i c
  rw[c,h3];exact⟨⟨fun h=>aN h (by decide),fun h=>aN h (by show ¬((1:Int)=0);decide)⟩,rfl⟩
 ·exact⟨Iff.rfl,rfl⟩
theorem RB{C:List (List Int)}:∀(rest:List M.Op) (m:M.Md) (left:List M.Op),dH (wo m (left++rest)) C->mS m.au (rest.foldl nK (m,left)).1.au
 | [],m,left,h=>mS.refl _
 | o::rest,m,left,h=>by
  rw[List.foldl_cons];unfold nK;by_cases hk:rP m o=true
  ·rw[ay hk]
   obtain⟨e,s⟩:=h.MW (l:=left) (r:=rest) (o:=o) rfl hk;have e':O.iu m o (M.aq m o.a).data (M.aq m o.b).data=D.bW C o.to:=e;rw[e'];obtain⟨t0,t1,t3⟩:=h.to o (by show o∈left++o::rest;simp);exact(ak0 (m:=m) t0 t1 t3).trans (RB rest _ left s)
  ·rw[ak hk]
   refine RB (C:=C) rest m (left++[o]) ?_;rw[j8];exact h
theorem ak1(m:M.Md)(i:Nat):(kF m i).au=m.au/\(kF m i).aK=m.aK:=by
 unfold kF
 cases m.ag[i]? with
 | none=>exact⟨rfl,rfl⟩
 | some o=>show(if _ then _ else _:M.Md).au=_/\(if _ then _ else _:M.Md).aK=_;split<;>exact⟨rfl,rfl⟩
theorem Nd:∀(i:Nat) (m:M.Md),(rQ i m).au=m.au/\(rQ i m).aK=m.aK
 | 0,_=>⟨rfl,rfl⟩
 | i+1,m=>by
  have h:=Nd i (kF m i);have h':=ak1 m i;exact⟨h.1.trans h'.1,h.2.trans h'.2⟩
theorem X6:∀(rest:List M.Op) (m:M.Md) (left:List M.Op),(rest.foldl nK (m,left)).1.aK=m.aK
 | [],_,_=>rfl
 | o::rest,m,left=>by
  rw[List.foldl_cons];have e:(nK (m,left) o).1.aK=m.aK:=by unfold nK;split<;>rfl
  rw[<-e];exact X6 rest (nK (m,left) o).1 (nK (m,left) o).2
theorem Nf(m:M.Md):(jE m).aK=m.aK:=by
 show(drop (iR m)).aK=_;unfold drop;rw[(Nd _ _).2];exact X6 m.ag m []
theorem ak2(m:M.Md):mS m.au (mP m).au:=by
 refine⟨MX m,fun k t t' ht ij=>?_⟩;have hl:=M.bP ht;have e:=vO (m:=m) hl;have e':=vO (m:=mP m) (n:=k) (by rw[MX];exact hl);rw[ht] at e;injection e with e;rw[ij] at e';injection e' with e';rw[e,e',tj,(XK m).cells];exact⟨Iff.rfl,rfl⟩
theorem X7{m:M.Md}{C:List (List Int)}(s:dH m C):mS m.au (jE m).au:=by
 have h1:=RB m.ag m [] s;have h2:(oY (drop (iR m))).au=(iR m).au:=by show(drop (iR m)).au=_;unfold drop;exact(Nd _ _).1
 have h3:=ak2 (oY (drop (iR m)));rw[h2] at h3;exact mS.trans h1 h3
theorem Ng:∀(ts:List M.Tn) (ins:List (List Int)) (n:Nat) t,ts[n]?=some t->t.af=0->(O.mN ts ins).getD n []=ins.getD (cy ts n) []
 | [],_,n,t,h,_=>aN h (by simp)
 | u::ts,ins,0,t,h,h0=>by
  simp at h;subst h;unfold O.mN;rw[ay h0]
  cases ins<;>simp[cy]
 | u::ts,ins,n+1,t,h,h0=>by
  have h':ts[n]?=some t:=by simpa using h
  unfold O.mN;by_cases c:u.af=0
  ·rw[ay c]
   have e:cy (u::ts) (n+1)=cy ts n+1:=by unfold cy;rw[List.take_succ_cons,List.filter_cons];simp[qu,c]
   rw[e,List.getD_cons_succ,Ng ts ins.tail n t h' h0]
   cases ins<;>simp
  ·rw[ak c]
   have e:cy (u::ts) (n+1)=cy ts n:=by unfold cy;rw[List.take_succ_cons,List.filter_cons];simp[qu,c]
   rw[e]
   split
   ·rw[List.getD_cons_succ];exact Ng ts ins n t h' h0
   ·rw[List.getD_cons_succ];exact Ng ts ins n t h' h0
theorem ak3{m:M.Md}(h1:O.iP m){ins:List (List Int)}(hi:D.jP m ins=true):D8 m (O.fM m ins) ins:=by
 intro n t hn h0;have hl:=M.bP hn;have e:D.bW (O.fM m ins) n=D.bW (O.mN m.au ins) n:=by
  unfold O.fM;refine MZ _ _ fun o ho=>?_;obtain⟨i,mO⟩:=mQ ho;have hk:=O.mo (h1.to i o mO);refine⟨hk.1,fun e=>?_⟩;have:=vO hl;rw[hn] at this;injection this with this;rw[e,<-this] at hk;omega
 rw[e];have iX:ins.length=cy m.au m.au.length:=by
  unfold D.jP at hi;rw[eX,beq_iff_eq] at hi;have:=congrArg List.length hi.1;rw[jb,akZ,jb] at this;unfold cy;rw[jm];exact this
 have hc:=FG hn h0 hl;have:=Ng m.au ins n t hn h0;unfold D.bW;rw[ak (by omega),eC,this,List.getD,aS (by omega)]
 rfl
theorem D8.kept{m m':M.Md}{C ins:List (List Int)}(h:D8 m C ins)(k:mS m.au m'.au):D8 m' C ins:=by
 intro n t hn h0;have hl:=M.bP hn;obtain⟨u,hb⟩:∃u,m.au[n]?=some u:=⟨_,aS (by rw[<-k.1];exact hl)⟩;rw[k.cy];exact h n _ hb ((k.2 n _ t hb hn).1.mpr h0)
theorem ak4{m:M.Md}(h1:O.iP m){ins:List (List Int)}(hi:D.jP m ins=true):(jE m).aK.map (D.bW (O.fM m ins))=D.run m ins:=by
 rw[Nf];exact O.XB h1 hi
end H
open Go.RowKit
def Cm(l:H.dE):List Value:=[.int .i64 l.f,.int .i64 l.t,.int .i64 l.c]
def gm(b:H.Bf):List Value:=[.int .i64 b.a,.int .i64 b.c]
def pK(w:World)(base:Nat)(v:Value)(xs:List H.dE):Prop:=w.ownsRow base 165 3 v xs.length (xs.flatMap Cm)
def mT(w:World)(base:Nat)(v:Value)(xs:List H.Bf):Prop:=w.ownsRow base 125 2 v xs.length (xs.flatMap gm)
theorem pK.get{w:World}{base:Nat}{a:Option Addr}{n c:Nat}{xs:List H.dE}(h:pK w base (.slice a n c) xs)(i:Nat)(x:H.dE)(hi:xs[i]?=some x) :
  ∃g,a=some ⟨g,0,none⟩/\g<w.heap.size/\w.cell? ⟨g,i*3,none⟩=some (.int .i64 x.f)/\w.cell? ⟨g,i*3+1,none⟩=some (.int .i64 x.t)/\w.cell? ⟨g,i*3+2,none⟩=some (.int .i64 x.c):=by
 have aJ:=M.bP hi;obtain⟨g,ha,hb,hn,hc⟩:=nE h (by omega);have cF:∀j,j<3->w.cell? ⟨g,i*3+j,none⟩=(Cm x)[j]?:=by
  intro j hj;rw[hc _ (by omega)];exact lP Cm 3 (fun a=>rfl) xs i j x hi hj
 have k0:w.cell? ⟨g,i*3+0,none⟩=some (.int .i64 x.f):=cF 0 (by omega);exact⟨g,ha,ql w _ k0,k0,cF 1 (by omega),cF 2 (by omega)⟩
theorem pK.len{w:World}{base:Nat}{a:Option Addr}{n c:Nat}{xs:List H.dE}(h:pK w base (.slice a n c) xs):n=xs.length:=by
 obtain⟨ao,c',e⟩:=gP h;injection e
theorem mT.get{w:World}{base:Nat}{a:Option Addr}{n c:Nat}{xs:List H.Bf}(h:mT w base (.slice a n c) xs)(i:Nat)(x:H.Bf)(hi:xs[i]?=some x) :
  ∃g,a=some ⟨g,0,none⟩/\g<w.heap.size/\w.cell? ⟨g,i*2,none⟩=some (.int .i64 x.a)/\w.cell? ⟨g,i*2+1,none⟩=some (.int .i64 x.c):=by
 have aJ:=M.bP hi;obtain⟨g,ha,hb,hn,hc⟩:=nE h (by omega);have cF:∀j,j<2->w.cell? ⟨g,i*2+j,none⟩=(gm x)[j]?:=by
  intro j hj;rw[hc _ (by omega)];exact lP gm 2 (fun a=>rfl) xs i j x hi hj
 have k0:w.cell? ⟨g,i*2+0,none⟩=some (.int .i64 x.a):=cF 0 (by omega);exact⟨g,ha,ql w _ k0,k0,cF 1 (by omega)⟩
theorem mT.len{w:World}{base:Nat}{a:Option Addr}{n c:Nat}{xs:List H.Bf}(h:mT w base (.slice a n c) xs):n=xs.length:=by
 obtain⟨ao,c',e⟩:=gP h;injection e
theorem getD_some{α:Type}{l:List α}{i:Nat}{x d:α}(h:l[i]?=some x):l.getD i d=x:=by rw[List.getD,h];rfl
theorem ak5(x y:H.dE)(w:World):Calls prog 174 #[.agg #[.int .i64 x.f,.int .i64 x.t,.int .i64 x.c],.agg #[.int .i64 y.f,.int .i64 y.t,.int .i64 y.c]] w fun e w'=>e=.returned (.bool (H.mR x y))/\w.grownBy w' none:=by
 by_cases h1:x.f<=y.t
 ·by_cases h2:y.f<=x.t
  ·have He:=ae (show H.mR x y=true by unfold H.mR;rw[eG h1,eG h2];rfl)
   go_enter func174,ntmps174;go_wp2;go_ret;exact⟨bB He.out.symm,nZ _ _ _ _⟩
  ·have He:=ae (show H.mR x y=false by unfold H.mR;rw[eE h2,Bool.and_false])
   go_enter func174,ntmps174;go_wp2;go_ret;exact⟨bB He.out.symm,nZ _ _ _ _⟩
 ·have He:=ae (show H.mR x y=false by unfold H.mR;rw[eE h1,Bool.false_and])
  go_enter func174,ntmps174;go_wp2;go_ret;exact⟨bB He.out.symm,nZ _ _ _ _⟩
def Ea(ld:List H.Bf):Prop:=∀(i:Nat) b,ld[i]?=some b->0<=b.a/\b.a<=1000000/\0<=b.c/\b.c<=1000000
theorem RC{ld:List H.Bf}(h:Ea ld)(k:Nat):0<=H.endTo ld k/\H.endTo ld k<=2000000:=by
 refine⟨H.Cj _ _,H.IY (by decide) _ fun i _=>?_⟩;rw[List.getD]
 cases e:ld[i]? with
 | none=>decide
 | some b=>
  have:=h i b e;show b.a+b.c<=_;omega
theorem ak6{ld:List H.Bf}{k:Nat}{b:H.Bf}(h:ld[k]?=some b):H.endTo ld (k+1)=if H.endTo ld k<b.a+b.c then b.a+b.c else H.endTo ld k:=by
 rw[H.endTo,getD_some h];rfl
theorem X9(B:Nat)(a:Option Addr)(n c:Nat)(ld:List H.Bf)(w:World)(hI:mT w B (.slice a n c) ld)(hl:ld.length<=1000)(hb:Ea ld) :
  Calls prog 118 #[.slice a n c] w fun e w'=>e=.returned (.int .i64 (H.gU ld))/\w.grownBy w' none:=by
 obtain rfl:=hI.len;have Hb:=ae hb;clear hb;go_enter func118,ntmps118;go_wp2;go_loopw[3,8] (fun s i wr=>∃k:Nat,k<=ld.length/\i=.int .i64 k/\s=.int .i64 (H.endTo ld k)/\w.grownBy wr none) (fun _ i _=>ld.length-(intOf i).toNat)
 case atStart=>exact⟨0,bK _,rfl,rfl,fZ _ _⟩
 case round=>
  obtain⟨k,hk,rfl,rfl,aF⟩:=hrel;have hs:=RC Hb.out k;by_cases aJ:k<ld.length
  ·obtain⟨b,hx⟩:∃b,ld[k]?=some b:=⟨_,aS aJ⟩
   obtain⟨g,rfl,gQ,d0,d1⟩:=mT.get (eY hI aF) k b hx;have eD:=Hb.out k b hx;have HE:=ae (ak6 hx);have HG:=ae (aC aF (aQ wr (.cells (gm b).toArray 125) none));clear hx hI;generalize H.endTo ld k=s at *;obtain⟨ba,bc⟩:=b;simp only at *;by_cases hc:s<ba+bc
   ·rw[ay hc] at HE
    go_wp2;go_roundw
    case rel=>exact⟨k+1,by omega,by go_num,by rw[HE.out],HG.out⟩
    case measure=>simp[intOf];omega
   ·rw[ak hc] at HE
    go_wp2;go_roundw
    case rel=>exact⟨k+1,by omega,by go_num,by rw[HE.out],HG.out⟩
    case measure=>simp[intOf];omega
  ·obtain rfl:k=ld.length:=by omega
   have He:=ae (show H.endTo ld ld.length=H.gU ld from rfl);clear hI;go_wp2;go_ret;exact⟨cH He.out,aF⟩
theorem Ya(x lo hi:Int)(w:World):Calls prog 180 #[.int .i64 x,.int .i64 lo,.int .i64 hi] w fun e w'=>e=.returned (.int .i64 (R.cW x lo hi))/\w'=w:=by
 by_cases h1:x<lo
 ·have He:=ae (show R.cW x lo hi=lo by unfold R.cW;rw[ay h1])
  go_enter func180,ntmps180;go_wp2;go_ret;exact⟨cH He.out.symm,rfl⟩
 ·by_cases h2:hi<x
  ·have He:=ae (show R.cW x lo hi=hi by unfold R.cW;rw[ak h1,ay h2])
   go_enter func180,ntmps180;go_wp2;go_ret;exact⟨cH He.out.symm,rfl⟩
  ·have He:=ae (show R.cW x lo hi=x by unfold R.cW;rw[ak h1,ak h2])
   go_enter func180,ntmps180;go_wp2;go_ret;exact⟨cH He.out.symm,rfl⟩
theorem Jd(x:Int)(w:World):Calls prog 178 #[.int .i64 x] w fun e w'=>e=.returned (.int .i64 (O.held x))/\w'=w:=by
 go_enter func178,ntmps178;go_wp2_with fail;refine(Ya x (-2147483648) 2147483647 _).mono ?_;rintro e w1⟨rfl,rfl⟩;go_wp2;go_ret;exact⟨rfl,rfl⟩
theorem Yb(x n:Int)(w:World)(x0:-4611686018427387904<=x)(x1:x<=4611686018427387904)(n1:n<=4611686018427387904) :
  Calls prog 179 #[.int .i64 x,.int .i64 n] w fun e w'=>e=.returned (.int .i64 (O.oV x n))/\w'=w:=by
 by_cases h0:n<1
 ·have He:=ae (show O.oV x n=x by unfold O.oV;rw[ay h0])
  go_enter func179,ntmps179;go_wp2;go_ret;exact⟨cH He.out.symm,rfl⟩
 ·have hd:Int.tdiv n 2=n/2:=Int.tdiv_eq_ediv_of_nonneg (by omega)
  have d0:0<=n/2/\n/2<=2305843009213693952:=by omega
  by_cases h1:x<0
  ·have hq:Int.tdiv (-x+n/2) n=(-x+n/2)/n:=Int.tdiv_eq_ediv_of_nonneg (by omega)
   have q0:0<=(-x+n/2)/n:=Int.ediv_nonneg (by omega) (by omega);have q1:(-x+n/2)/n<=-x+n/2:=Int.ediv_le_self _ (by omega);have He:=ae (show O.oV x n = -((-x+n/2)/n) by unfold O.oV;rw[ak h0,ay h1]);go_enter func179,ntmps179;go_wp2;go_ret;exact⟨cH He.out.symm,rfl⟩
  ·have hq:Int.tdiv (x+n/2) n=(x+n/2)/n:=Int.tdiv_eq_ediv_of_nonneg (by omega)
   have q0:0<=(x+n/2)/n:=Int.ediv_nonneg (by omega) (by omega);have q1:(x+n/2)/n<=x+n/2:=Int.ediv_le_self _ (by omega);have He:=ae (show O.oV x n=(x+n/2)/n by unfold O.oV;rw[ak h0,ak h1]);go_enter func179,ntmps179;go_wp2;go_ret;exact⟨cH He.out.symm,rfl⟩
theorem Yc(lR dP n length aE:Int)(w:World)(a0:0<=lR)(a1:lR<=255)(b0:0<=dP)(b1:dP<=255)(n0:0<=n)(n1:n<=255)(l0:0<=length)(l1:length<=255)(s0:0<=aE)(s1:aE<=255) :
  Calls prog 175 #[.int .i64 lR,.int .i64 dP,.int .i64 n,.int .i64 length,.int .i64 aE] w fun e w'=>e=.returned (.int .i64 (O.iZ lR dP n length aE))/\w'=w:=by
 have m1:=O.kR (a:=dP-1) (b:=aE) (A:=255) (B:=255) (by omega) (by omega);have m2:=O.kR (a:=lR) (b:=aE) (A:=255) (B:=255) (by omega) (by omega);by_cases h:(dP-1)*aE+n-length<0
 ·have He:=ae (show O.iZ lR dP n length aE=lR*aE by unfold O.iZ;rw[ay h];omega)
  go_enter func175,ntmps175;go_wp2;go_ret;exact⟨cH He.out.symm,rfl⟩
 ·have hd:Int.tdiv ((dP-1)*aE+n-length) 2=((dP-1)*aE+n-length)/2:=Int.tdiv_eq_ediv_of_nonneg (by omega)
  have He:=ae (show O.iZ lR dP n length aE=lR*aE-((dP-1)*aE+n-length)/2 by unfold O.iZ;rw[ak h]);go_enter func175,ntmps175;go_wp2;go_ret;exact⟨cH He.out.symm,rfl⟩
theorem ak7{x s:Int}(hx:-2147483648<=x/\x<=2147483647)(hs:s<=30):-4611686018427387904<=x*2 ^ s.toNat/\x*2 ^ s.toNat<=4611686018427387904:=by
 have hp:=O.Q9 (k:=s.toNat) (K:=30) (by omega);rw[show(2:Int) ^ 30=1073741824 from by decide] at hp;have:=O.kR (a:=x) (b:=2 ^ s.toNat) (A:=2147483648) (B:=1073741824) (by omega) (by omega);omega
theorem ak8(x:Int)(c:M.Sc)(w:World)(hx:-2147483648<=x/\x<=2147483647)(m0:1073741824<=c.eF)(m1:c.eF<=2147483647)(s0:-31<=c.shift)(s1:c.shift<=30) :
  Calls prog 192 #[.int .i64 x,.agg #[.int .i64 c.eF,.int .i64 c.shift]] w fun e w'=>e=.returned (.int .i64 (O.iN x c))/\w.grownBy w' none:=by
 obtain⟨mu,sh⟩:=c;simp only at m0 m1 s0 s1 ⊢;obtain⟨x0,x1⟩:=hx;by_cases hp:0<sh
 ·have hr:=O.BX (x*2 ^ sh.toNat)
  have hm:=O.kR (a:=O.held (x*2 ^ sh.toNat)) (b:=mu) (A:=2147483648) (B:=2147483647) (by omega) (by omega);have dL:=ak7 ⟨x0,x1⟩ s1;have He:=ae (show O.iN x ⟨mu,sh⟩=O.held ((O.held (x*2 ^ sh.toNat)*mu+1073741824)/2147483648) by
   unfold O.iN O.rM O.oS;rw[ak (show ¬sh<0 by omega),ay hp])
  go_enter func192,ntmps192;go_wp2_with fail;refine(Jd (x*2 ^ sh.toNat) _).mono ?_;rintro e w1⟨rfl,rfl⟩;clear dL;generalize O.held (x*2 ^ sh.toNat)=r at *;go_wp2_with fail;refine(Jd ((r*mu+1073741824)/2147483648) _).mono ?_;rintro e w1⟨rfl,rfl⟩;go_wp2;go_ret;exact⟨cH He.out.symm,aQ _ _ _⟩
 ·have hm:=O.kR (a:=x) (b:=mu) (A:=2147483648) (B:=2147483647) (by omega) (by omega)
  by_cases hn:sh<0
  ·have hh:=O.BX ((x*mu+1073741824)/2147483648)
   have gj:=O.Q9 (k:=(-sh).toNat) (K:=31) (by omega);rw[show(2:Int) ^ 31=2147483648 from by decide] at gj;have He:=ae (show O.iN x ⟨mu,sh⟩=O.oV (O.held ((x*mu+1073741824)/2147483648)) (2 ^ (-sh).toNat) by
    unfold O.iN O.rM O.oS;rw[ay (show sh<0 from hn),ak hp])
   go_enter func192,ntmps192;go_wp2_with fail;refine(Jd ((x*mu+1073741824)/2147483648) _).mono ?_;rintro e w1⟨rfl,rfl⟩;clear hm;generalize O.held ((x*mu+1073741824)/2147483648)=r at *;obtain⟨r0,r1⟩:=hh;obtain⟨p0,p1⟩:=gj;go_wp2_with fail;refine(Yb r (2 ^ (-sh).toNat) _ (by omega) (by omega) (by omega)).mono ?_;rintro e w1⟨rfl,rfl⟩;go_wp2;go_ret;exact⟨cH He.out.symm,aQ _ _ _⟩
  ·have He:=ae (show O.iN x ⟨mu,sh⟩=O.held ((x*mu+1073741824)/2147483648) by
    unfold O.iN O.rM O.oS;rw[ak (show ¬sh<0 from hn),ak hp])
   go_enter func192,ntmps192;go_wp2_with fail;refine(Jd ((x*mu+1073741824)/2147483648) _).mono ?_;rintro e w1⟨rfl,rfl⟩;go_wp2;go_ret;exact⟨cH He.out.symm,aQ _ _ _⟩
theorem ak9{w w':World}(hg:w.grownBy w' none){a:Addr}{v:Value}(h:w.cell? a=some v):w'.cell? a=some v:=by
 rw[World.cell?_of_block (hg.block a.block (ql w _ h) (by simp))];exact h
def kH(w:World)(v:Value)(l:List Int):Prop:=∃a c,v=.slice a l.length c/\∀(i:Nat) x,l[i]?=some x->∃g off,a=some ⟨g,off,none⟩/\g<w.heap.size/\w.cell? ⟨g,off+i,none⟩=some (.int .i64 x)
theorem kH.nil(w:World):kH w (.slice none 0 0) []:=⟨none,0,rfl,fun i x h=>aN h (by simp)⟩
theorem kH.len{w:World}{a:Option Addr}{n c:Nat}{l:List Int}(h:kH w (.slice a n c) l):n=l.length:=by
 obtain⟨a',c',e,_⟩:=h;injection e
theorem kH.get{w:World}{a:Option Addr}{n c:Nat}{l:List Int}(h:kH w (.slice a n c) l)(i:Nat)(x:Int)(hi:l[i]?=some x):∃g off,a=some ⟨g,off,none⟩/\g<w.heap.size/\w.cell? ⟨g,off+i,none⟩=some (.int .i64 x):=by
 obtain⟨a',c',e,k⟩:=h;injection e with e _ _;subst e;exact k i x hi
theorem kH.Z{w w':World}{v:Value}{l:List Int}(h:kH w v l)(hg:w.grownBy w' none):kH w' v l:=by
 obtain⟨a,c,e,k⟩:=h;refine⟨a,c,e,fun i x hi=>?_⟩;obtain⟨g,off,e1,h1,h2⟩:=k i x hi;exact⟨g,off,e1,qN h1 hg.size,ak9 hg h2⟩
theorem aZ.row{w:World}{B:Nat}{a:Option Addr}{n c:Nat}{l:List Int}(h:aZ w B (.slice a n c) l):kH w (.slice a n c) l:=by
 obtain rfl:=h.len;refine⟨a,c,rfl,fun i x hi=>?_⟩;obtain⟨g,e,hl,-,d⟩:=h.get i x hi;exact⟨g,0,e,hl,by rw[Nat.zero_add];exact d⟩
structure Gr(w:World)(b q:Nat)(g:O.G)(ao:Option Addr)(c:Nat):Prop where
 gh:w.cell? ⟨b,q,none⟩=some (.int .i64 g.h)
 gw:w.cell? ⟨b,q+1,none⟩=some (.int .i64 g.w)
 gc:w.cell? ⟨b,q+2,none⟩=some (.int .i64 g.c)
 gz:w.cell? ⟨b,q+3,none⟩=some (.int .i64 g.zero)
 gv:w.cell? ⟨b,q+4,none⟩=some (.slice ao g.cells.length c)
 gl:kH w (.slice ao g.cells.length c) g.cells
theorem Gr.drewN{w:World}{b q:Nat}{g:O.G}{ao:Option Addr}{c:Nat}(h:Gr w b q g ao c)(n:Nat):Gr (w.drewN n) b q g ao c:=⟨h.gh,h.gw,h.gc,h.gz,h.gv,h.gl⟩
theorem Yd{g:O.G}{i:Int}(h:i<0\/(g.cells.length:Int)<=i):O.jZ g i=g.zero:=by unfold O.jZ;rw[ay h]
theorem ala{g:O.G}{k:Nat}{x:Int}(h:g.cells[k]?=some x):O.jZ g k=x:=by
 have hk:k<g.cells.length:=by
  rcases cE k g.cells.length with h' | h'
  ·exact h'
  ·simp[db h'] at h
 unfold O.jZ;rw[ak (by omega),eC,List.getD,h];rfl
theorem Nh(b q:Nat)(g:O.G)(ao:Option Addr)(c:Nat)(i:Int)(w:World)(hG:Gr w b q g ao c)(_hl:g.cells.length<=512) :
  Calls prog 158 #[.pointer (some ⟨b,q,none⟩),.int .i64 i] w fun e w'=>e=.returned (.int .i64 (O.jZ g i))/\w'=w:=by
 have d3:=hG.gz;have d4:=hG.gv;by_cases h0:i<0
 ·have He:=ae (Yd (g:=g) (.inl h0))
  clear hG;go_enter func158,ntmps158;go_wp2;go_ret;exact⟨cH He.out.symm,rfl⟩
 ·by_cases h1:(g.cells.length:Int)<=i
  ·have He:=ae (Yd (g:=g) (.inr h1))
   clear hG;go_enter func158,ntmps158;go_wp2;go_ret;exact⟨cH He.out.symm,rfl⟩
  ·obtain⟨k,rfl⟩:=fT (show 0<=i by omega)
   have hk:k<g.cells.length:=by omega
   obtain⟨x,hx⟩:∃x,g.cells[k]?=some x:=⟨_,aS hk⟩;obtain⟨e,off,rfl,-,d5⟩:=hG.gl.get k x hx;have He:=ae (ala hx);clear hG hx;go_enter func158,ntmps158;go_wp2;go_ret;exact⟨cH He.out.symm,rfl⟩
theorem FJ{g:O.G}{y x k:Int}(h:y<0\/g.h<=y\/x<0\/g.w<=x\/k<0\/g.c<=k):O.bN g y x k=g.zero:=by unfold O.bN;rw[ay (show O.off g y x k from h)]
theorem yT(b q:Nat)(g:O.G)(ao:Option Addr)(c:Nat)(y x k:Int)(w:World)(hG:Gr w b q g ao c)(hl:g.cells.length<=512)(h1:g.h<=255)(w1:g.w<=255)(c1:g.c<=255) :
  Calls prog 156 #[.pointer (some ⟨b,q,none⟩),.int .i64 y,.int .i64 x,.int .i64 k] w fun e w'=>e=.returned (.int .i64 (O.bN g y x k))/\∃n,w'=w.drewN n:=by
 have d0:=hG.gh;have d1:=hG.gw;have d2:=hG.gc;have d3:=hG.gz;by_cases a0:y<0
 ·have He:=ae (FJ (g:=g) (y:=y) (x:=x) (k:=k) (.inl a0))
  clear hG;go_enter func156,ntmps156;go_wp2;go_ret;exact⟨cH He.out.symm,0,rfl⟩
 ·by_cases a1:g.h<=y
  ·have He:=ae (FJ (g:=g) (y:=y) (x:=x) (k:=k) (.inr (.inl a1)))
   clear hG;go_enter func156,ntmps156;go_wp2;go_ret;exact⟨cH He.out.symm,0,rfl⟩
  ·by_cases a2:x<0
   ·have He:=ae (FJ (g:=g) (y:=y) (x:=x) (k:=k) (.inr (.inr (.inl a2))))
    clear hG;go_enter func156,ntmps156;go_wp2;go_ret;exact⟨cH He.out.symm,0,rfl⟩
   ·by_cases a3:g.w<=x
    ·have He:=ae (FJ (g:=g) (y:=y) (x:=x) (k:=k) (.inr (.inr (.inr (.inl a3)))))
     clear hG;go_enter func156,ntmps156;go_wp2;go_ret;exact⟨cH He.out.symm,0,rfl⟩
    ·by_cases a4:k<0
     ·have He:=ae (FJ (g:=g) (y:=y) (x:=x) (k:=k) (.inr (.inr (.inr (.inr (.inl a4))))))
      clear hG;go_enter func156,ntmps156;go_wp2;go_ret;exact⟨cH He.out.symm,0,rfl⟩
     ·by_cases a5:g.c<=k
      ·have He:=ae (FJ (g:=g) (y:=y) (x:=x) (k:=k) (.inr (.inr (.inr (.inr (.inr a5))))))
       clear hG;go_enter func156,ntmps156;go_wp2;go_ret;exact⟨cH He.out.symm,0,rfl⟩
      ·have He:=ae (show O.bN g y x k=O.jZ g ((y*g.w+x)*g.c+k) by unfold O.bN;rw[ak];unfold O.off;omega)
       have m1:=O.kR (a:=y) (b:=g.w) (A:=255) (B:=255) (by omega) (by omega);have m2:=O.kR (a:=y*g.w+x) (b:=g.c) (A:=65280) (B:=255) (by omega) (by omega);have HG:=ae hG;clear hG;go_enter func156,ntmps156;go_wp2;go_quiet (first|(go_at_call 158;refine mU (Nh b q g ao c ((y*g.w+x)*g.c+k) _ (HG.out.drewN _) hl)));go_wp2;go_ret;exact⟨cH He.out.symm,_,rfl⟩
end Go.Proofs.YtcnhfffgbamonaaGreat
