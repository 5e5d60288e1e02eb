import Derived.Test.YtcnhfffgbamonaaGreatZ33
namespace Go.Proofs.YtcnhfffgbamonaaGreat
open Go.Proofs.Tryz
open RowKit
theorem tT{w:World}{g:Nat}{T T':TypeId}{cs ua:Array Value}(h:aj w g T cs)(h':aj w g T' ua):T=T':=by
 unfold aj at h h';rw[h] at h';injection h' with h';injection h' with _ h2
def GM(w:World)(v:Value)(l:List Int):Prop:=
 ∃(g k c:Nat) (cs:Array Value),v=.slice (some ⟨g,k,none⟩) l.length c/\aj w g 3 cs/\∀(i:Nat) x,l[i]?=some x->cs[k+i]?=some (.int .i64 x)
theorem GM.kept{w w':World}{row:Option Nat}{v:Value}{l:List Int}(h:GM w v l)(hg:w.grownBy w' row)(hr:∀g cs,aj w g 3 cs->some g≠row):GM w' v l:=by
 obtain⟨g,k,c,cs,e,hB,hc⟩:=h;exact⟨g,k,c,cs,e,hB.kept hg (hr g cs hB),hc⟩
theorem GM.sl{w:World}{v:Value}{l:List Int}(h:GM w v l):Sl w v l:=by
 obtain⟨g,k,c,cs,e,hB,hc⟩:=h;refine⟨_,c,e,fun i x hx=>⟨_,rfl,?_⟩⟩;have ea:(⟨g,k,none⟩:Addr).add i=⟨g,k+i,none⟩:=by unfold Addr.add;split<;>simp_all
 rw[ea,hB.cell (k+i)];exact hc i x hx
def lY(w0 wr:World)(v:Value)(l:List Int):Prop:=Sl w0 v l\/aZ wr 0 v l\/GM wr v l
theorem lY.Z{w0 wr mE:World}{v:Value}{l:List Int}(h:lY w0 wr v l)(hg:wr.grownBy mE none):lY w0 mE v l:=h.imp id (fun i=>i.imp (fun i=>i.Z hg) (fun i=>i.kept hg (by simp)))
theorem lY.kept{w0 wr mE:World}{G:Nat}{T:TypeId}{v:Value}{l:List Int}{cs:Array Value}(h:lY w0 wr v l)(hB:aj wr G T cs)(hT:T≠3)(hg:wr.grownBy mE (some G)):lY w0 mE v l:=
 h.imp id (fun i=>i.imp (fun i=>i.apart hB hT hg) (fun i=>i.kept hg (fun g ua h3 e=>by injection e with e;subst e;exact hT (tT hB h3))))
theorem lY.sl{w0 wr:World}{a:Option Addr}{n c:Nat}{l:List Int}(h:lY w0 wr (.slice a n c) l)(hg:w0.grownBy wr none):Sl wr (.slice a n c) l:=by
 rcases h with h|h|h
 ·exact h.Z hg
 ·exact h.sl
 ·exact h.sl
def rD(w0 w:World)(v:Value)(ls:List (List Int)):Prop:=
 ∃(ao:Option Addr) (c:Nat),v=.slice ao ls.length c/\∀(i:Nat) l,ls[i]?=some l->∃a b c',ao=some a/\w.cell? (a.add i)=some (.slice b l.length c')/\lY w0 w (.slice b l.length c') l
theorem rD.Z{w0 w w':World}{v:Value}{ls:List (List Int)}(h:rD w0 w v ls)(hg:w.grownBy w' none):rD w0 w' v ls:=by
 obtain⟨ao,c,e,h⟩:=h;exact⟨ao,c,e,fun i x hx=>by obtain⟨a,b,c',ea,ha,hs⟩:=h i x hx;exact⟨a,b,c',ea,aG hg ha,hs.Z hg⟩⟩
theorem rD.lsl{w0 w:World}{v:Value}{ls:List (List Int)}(h:rD w0 w v ls)(hg:w0.grownBy w none):rZ w v ls:=by
 obtain⟨ao,c,e,h⟩:=h;exact⟨ao,c,e,fun i x hx=>by obtain⟨a,b,c',ea,ha,hs⟩:=h i x hx;exact⟨a,b,c',ea,ha,hs.sl hg⟩⟩
theorem rD.get{w0 w:World}{ao:Option Addr}{n c:Nat}{ls:List (List Int)}(h:rD w0 w (.slice ao n c) ls)(i:Nat)(l:List Int)(hl:ls[i]?=some l):∃a b c',ao=some a/\w.cell? (a.add i)=some (.slice b l.length c')/\lY w0 w (.slice b l.length c') l:=by
 obtain⟨_,_,e,h⟩:=h;injection e with e _ _;subst e;exact h i l hl
theorem rD.len{w0 w:World}{ao:Option Addr}{n c:Nat}{ls:List (List Int)}(h:rD w0 w (.slice ao n c) ls):n=ls.length:=by
 obtain⟨_,_,e,_⟩:=h;injection e with _ e _
def qF(w0 wr:World)(vs:List Value)(E:List (List Int)):Prop:=
 vs.length=E.length/\∀(n:Nat) v l,vs[n]?=some v->E[n]?=some l->∃a cp,v=.slice a l.length cp/\lY w0 wr (.slice a l.length cp) l
theorem qF.Z{w0 wr mE:World}{vs:List Value}{E:List (List Int)}(h:qF w0 wr vs E)(hg:wr.grownBy mE none):qF w0 mE vs E:=
 ⟨h.1,fun n v l hv hl=>by obtain⟨a,cp,e,h'⟩:=h.2 n v l hv hl;exact⟨a,cp,e,h'.Z hg⟩⟩
theorem qF.kept{w0 wr mE:World}{G:Nat}{T:TypeId}{cs:Array Value}{vs:List Value}{E:List (List Int)}(h:qF w0 wr vs E)(hB:aj wr G T cs)(hT:T≠3)(hg:wr.grownBy mE (some G)):qF w0 mE vs E:=
 ⟨h.1,fun n v l hv hl=>by obtain⟨a,cp,e,h'⟩:=h.2 n v l hv hl;exact⟨a,cp,e,h'.kept hB hT hg⟩⟩
theorem qF.set{w0 wr:World}{vs:List Value}{E:List (List Int)}(h:qF w0 wr vs E)(n:Nat){a:Option Addr}{cp:Nat}{l:List Int}(hl:lY w0 wr (.slice a l.length cp) l):qF w0 wr (vs.set n (.slice a l.length cp)) (E.set n l):=by
 refine⟨by rw[kK,kK];exact h.1,fun k v l' hv fI=>?_⟩;rw[ox] at hv fI;by_cases e:n=k
 ·subst e
  rw[ay rfl] at hv fI;by_cases c:n<vs.length
  ·rw[ay c] at hv
   rw[ay (by rw[<-h.1];exact c)] at fI;injection hv with hv;injection fI with fI;subst hv fI;exact⟨a,cp,rfl,hl⟩
  ·rw[ak c] at hv;cases hv
 ·rw[ak e] at hv fI
  exact h.2 k v l' hv fI
theorem qF.E4{w0 wr:World}{cb tt:Nat}{vs:List Value}{E:List (List Int)}(h:qF w0 wr vs E)(hB:aj wr cb tt vs.toArray):∀(n:Nat) l,E[n]?=some l->∃a cp,wr.cell? ⟨cb,n,none⟩=some (.slice a l.length cp)/\lY w0 wr (.slice a l.length cp) l:=fun n l hl=>by
 have aJ:=M.bP hl;obtain⟨v,hv⟩:∃v,vs[n]?=some v:=⟨_,aS (by rw[h.1];exact aJ)⟩;obtain⟨a,cp,e,h'⟩:=h.2 n v l hv hl;exact⟨a,cp,by rw[hB.cell n,nP,hv,e],h'⟩
theorem qF.get{w0 wr:World}{cb tt:Nat}{vs:List Value}{E:List (List Int)}(h:qF w0 wr vs E)(hB:aj wr cb tt vs.toArray)(hg:w0.grownBy wr none):∀(n:Nat) l,E[n]?=some l->∃a cp,wr.cell? ⟨cb,n,none⟩=some (.slice a l.length cp)/\Sl wr (.slice a l.length cp) l:=fun n l hl=>by
 obtain⟨a,cp,h1,h2⟩:=h.E4 hB n l hl;exact⟨a,cp,h1,h2.sl hg⟩
theorem qF.atM(w0 wr:World)(n:Nat):qF w0 wr (List.replicate n (.slice none 0 0)) (List.replicate n []):=
 ⟨by simp,fun k v l hv hl=>by
  rw[ui] at hv hl
  split at hv
  ·rename_i c
   rw[ay c] at hl;injection hv with hv;injection hl with hl;subst hv hl;exact⟨none,0,rfl,.inr (.inl (aZ.nil _ _))⟩
  ·cases hv⟩
theorem Lm(vs:List Value)(n:Nat)(v:Value):(vs.toArray).setIfInBounds n v=(vs.set n v).toArray:=by simp
structure tU(w0 w wr:World)(b rb cb n:Nat)(E:List (List Int)):Prop where
 r:aj wr rb 147 #[.pointer (some ⟨b,0,none⟩),.slice (some ⟨cb,0,none⟩) n n]
 vs:∃vs:List Value,aj wr cb 33 vs.toArray/\qF w0 wr vs E
 g:w.grownBy wr none
 g0:w0.grownBy w none
 Bx:w.heap.size<=cb
 ne:rb≠cb
theorem tU.Z{w0 w wr mE:World}{b rb cb n:Nat}{E:List (List Int)}(h:tU w0 w wr b rb cb n E)(hg:wr.grownBy mE none):tU w0 w mE b rb cb n E:=by
 obtain⟨vs,h1,h2⟩:=h.vs;exact⟨h.r.kept hg (by simp),⟨vs,h1.kept hg (by simp),h2.Z hg⟩,aC h.g hg,h.g0,h.Bx,h.ne⟩
theorem tU.set{w0 w wr:World}{b rb cb n:Nat}{E:List (List Int)}(h:tU w0 w wr b rb cb n E)(i:Nat){a:Option Addr}{cp:Nat}{l:List Int}(hl:lY w0 wr (.slice a l.length cp) l):
  tU w0 w (wr.setCell ⟨cb,i,none⟩ (.slice a l.length cp)) b rb cb n (E.set i l):=by
 obtain⟨vs,h1,h2⟩:=h.vs;have hs:=bD wr cb i (.slice a l.length cp);refine⟨h.r.kept hs (by intro e;injection e with e;exact h.ne e),⟨vs.set i (.slice a l.length cp),?_,?_⟩,dF h.g hs h.Bx,h.g0,h.Bx,h.ne⟩
 ·have e:=h1.set i (.slice a l.length cp)
  rw[Lm] at e;exact e
 ·exact(h2.set i hl).kept h1 (by decide) hs
theorem tU.E4{w0 w wr:World}{b rb cb n:Nat}{E:List (List Int)}(h:tU w0 w wr b rb cb n E){i:Nat}{l:List Int}(hl:E[i]?=some l):∃a cp,wr.cell? ⟨cb,i,none⟩=some (.slice a l.length cp)/\lY w0 wr (.slice a l.length cp) l/\wr.frozen? ⟨cb,i,none⟩=false:=by
 obtain⟨vs,h1,h2⟩:=h.vs;obtain⟨a,cp,e1,e2⟩:=h2.E4 h1 i l hl;exact⟨a,cp,e1,e2,h1.free i⟩
theorem tU.rnr{w0 w wr:World}{b rb cb ga c1:Nat}{g:R.bX}{E:List (List Int)}(h:tU w0 w wr b rb cb g.ts.length E)(hT:tQ w b ga c1 g)(hn:g.ts.length<=255):jB wr rb b ga c1 cb g E:=by
 obtain⟨vs,h1,h2⟩:=h.vs;exact⟨h.r.cell 0,h.r.cell 1,⟨aG h.g hT.q,fun i t ht=>(hT.t i t ht).Z h.g⟩,h2.get h1 (aC h.g0 h.g),hn⟩
end Go.Proofs.YtcnhfffgbamonaaGreat
