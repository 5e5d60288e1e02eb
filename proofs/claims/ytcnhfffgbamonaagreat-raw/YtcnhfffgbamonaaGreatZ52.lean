import Derived.Test.YtcnhfffgbamonaaGreatZ51
namespace Go.Proofs.YtcnhfffgbamonaaGreat
open Go.Proofs.Tryz
open RowKit
theorem auq{g0 G:Nat}{gs:List Nat}{g2 g3:Nat}{mark:Int}{bs:List H.Bf}{ss:List Sp}{is us:List Int}{B:Nat}{w:World}(hS:mA w B G gs ss)(o0:g0<G)(o3:∀g∈gs,g<g2)(o4:G<g2)(o5:g2<g3):
  ∀q,q∈(oJ g0 G gs g2 g3 mark bs ss is us).iG->g0<=q/\q<=g3:=by
 intro q hq;simp only[Td.iG,oJ,List.mem_cons,List.map_map] at hq;rcases hq with rfl|rfl|rfl|rfl|hq
 ·omega
 ·omega
 ·omega
 ·omega
 ·obtain⟨z,hz,rfl⟩:=List.mem_map.mp hq
  have h1:=o3 z.1 (List.of_mem_zip hz).1;have h2:=hS.aT z.1 (List.of_mem_zip hz).1;show g0<=z.1/\z.1<=g3;omega
theorem aur(b base:Nat)(vp vl vw va vn ve vr vt vo:Value)(mark:Int)(tl:List Td)(lo g0 G:Nat)(gs:List Nat)(g2 g3:Nat)(bs:List H.Bf)(ss:List Sp)(is us:List Int)(w:World)
  (hL:LW w b vp vl vw va vn ve vr vt (.int .i64 mark) vo) (hT:Ts w base vt tl) (Dw:∀t∈tl,∀g∈t.iG,g≠b/\vt.ownBlock≠some g/\g<lo) (hI:Bp w lo g0 G gs g2 g3 bs ss is us) (hb:b<lo) (ho:∀g,vt.ownBlock=some g->g<lo/\g≠b)
  (zg:base<=w.heap.size) (m0:0<=mark) (m1:mark<=1000000000000) (hn:tl.length<=1000000000) (nb:bs.length<=1000) (ns:ss.length<=1000) (ni:is.length<=1000) (no:us.length<=1000) (nf:∀s∈ss,s.bS.length<=1000):
 Calls prog 83 #[.pointer (some ⟨b,0,none⟩),.agg (nU g0 G g2 g3 bs ss is us)] w fun e w'=>e=.returned (.tuple #[])/\∃gt ct td,
   LW w' b vp vl vw va vn ve vr (.slice (some ⟨gt,0,none⟩) (tl.length+1) ct) (.int .i64 (mark+4+ss.length)) vo/\Ts w' base (.slice (some ⟨gt,0,none⟩) (tl.length+1) ct) (tl++[td]) /\
   (∀t∈tl++[td],∀g∈t.iG,g≠b/\g≠gt)/\(∀g∈td.iG,g0<=g/\g<=g3)/\(vt.ownBlock=some gt\/w.heap.size<gt)/\Fr (fun k=>k=b\/vt.ownBlock=some k\/(g0<=k/\k<=g3)) w w':=by
 obtain⟨h1,⟨B,h2⟩,h3,h4,r0,r1,r2,r3,r4⟩:=hI;have tb:=auq (mark:=mark) (bs:=bs) (is:=is) (us:=us) h2 r1 r2 r3 r4;have aU:=h4.lt;refine(aqh b base vp vl vw va vn ve vr vt vo tl.length mark (tl.flatMap Td.val) g0 G gs g2 g3 B 0 bs ss is us w hL hT.1 h1 h2 h3 h4 r1 (by omega) (fun g hg=>⟨by have:=(ho g hg).1;omega,(ho g hg).2⟩) r2 r3 r4 zg m0 m1 hn nb ns ni no nf).mono ?_;rintro e w'⟨rfl,gt,ct,hL',Cd,OJ,jr,hF⟩;have ey:∀t∈tl++[oJ g0 G gs g2 g3 mark bs ss is us],∀g∈t.iG,g≠b/\g≠gt:=by
  intro t ht g hg;rcases List.mem_append.1 ht with ht|ht
  ·obtain⟨q1,q2,q3⟩:=Dw t ht g hg
   refine⟨q1,fun e=>?_⟩;subst e;rcases jr with h|h
   ·exact q2 h
   ·omega
  ·simp at ht;subst ht
   have:=tb g hg;refine⟨by omega,fun e=>?_⟩;subst e;rcases jr with h|h
   ·have:=(ho g h).1;omega
   ·omega
 refine⟨rfl,gt,ct,oJ g0 G gs g2 g3 mark bs ss is us,hL',⟨?_,?_⟩,ey,tb,jr,hF.mono fun k _ h=>?_⟩
 ·rw[nJ,List.flatMap_append]
  simpa using Cd
 ·intro t ht
  rcases List.mem_append.1 ht with ht|ht
  ·refine(hT.2 t ht).kept hF fun g hg h=>?_
   obtain⟨q1,q2,q3⟩:=Dw t ht g hg;rcases h with h|h|h
   ·exact q1 h
   ·exact q2 h
   ·have:=tb g h;omega
  ·simp at ht;subst ht;exact OJ
 ·rcases h with h|h|h
  ·exact .inl h
  ·exact .inr (.inl h)
  ·exact .inr (.inr (tb k h))
theorem ry.lt{w:World}{t:Td}(h:ry w t):∀g∈t.iG,g<w.heap.size:=by
 intro g hg;simp only[Td.iG,List.mem_cons] at hg;rcases hg with rfl|rfl|rfl|rfl|hg
 ·exact h.b.lt
 ·exact h.s.lt
 ·exact h.i.lt
 ·exact h.o.lt
 ·obtain⟨p,hp,rfl⟩:=List.mem_map.mp hg
  obtain⟨k,hk⟩:=mQ hp;exact(h.f k p hk).lt
theorem Bp.lt{w:World}{lo g0 G:Nat}{gs:List Nat}{g2 g3:Nat}{bs:List H.Bf}{ss:List Sp}{is us:List Int}(h:Bp w lo g0 G gs g2 g3 bs ss is us):lo<w.heap.size/\g3<w.heap.size:=by
 have h1:=h.o.lt;have:=h.l0;have:=h.l1;have:=h.l3;have:=h.l4;omega
namespace R
theorem Lw{o:M.Op}(h:kN o):o.af=1\/o.af=2\/o.af=3\/o.af=4\/o.af=5\/o.af=6\/o.af=7\/o.af=8\/o.af=9\/o.af=10:=by
 have:=h.k0;have:=h.k1;omega
theorem aut{o:M.Op}(h:kN o):∀x∈pA o,0<=x/\x<=255:=by
 intro x hx;unfold pA at hx;have ha:=h.a;have hb:=h.b;have hw:=h.ws;have hi:=h.bs;unfold fQ at ha hb hw hi;rcases List.mem_cons.mp hx with rfl|hx
 ·exact ha
 ·rcases List.mem_append.mp hx with hx|hx
  ·split at hx
   ·simp at hx
    rcases hx with rfl|rfl
    ·exact hw
    ·exact hi
   ·simp at hx
  ·split at hx
   ·simp at hx;subst hx;exact hb
   ·simp at hx
theorem auu{o:M.Op}(h:kN o):((pA o).length:Int)=dd o.af:=by
 unfold pA;rcases Lw h with k|k|k|k|k|k|k|k|k|k<;>rw[k]<;>rfl
theorem auv{o:M.Op}(h:kN o):bT o.af≠none:=by
 rcases Lw h with k|k|k|k|k|k|k|k|k|k<;>rw[k]<;>decide
theorem auw(l:List M.Sc):(Gs l).length=2*l.length:=by
 unfold Gs
 induction l with
 |nil=>rfl
 |cons c l ih=>simp at ih ⊢;omega
theorem auy{o:M.Op}(h:kN o):(iH o).length=(iz o.af).length:=by
 have hs:=h.bM;unfold iH;simp only[nJ,auw,hs];rcases Lw h with k|k|k|k|k|k|k|k|k|k<;>rw[k]<;>rfl
theorem auz{o:M.Op}(h:kN o):∀x∈iH o,-2147483648<=x/\x<=2147483647:=by
 intro x hx;unfold iH at hx;have b1:=h.size;have b2:=h.aE;have b3:=h.aT;have b4:=h.below;have b5:=h.left;have b6:=h.right;have b7:=h.lo;have b8:=h.hi;unfold fQ at b1 b2 b3 b4 b5 b6;unfold qU at b7 b8;rcases List.mem_append.mp hx with hx|hx
 ·rcases List.mem_append.mp hx with hx|hx
  ·split at hx
   ·simp at hx
    rcases hx with rfl|rfl
    ·omega
    ·split<;>omega
   ·split at hx
    ·simp at hx
     rcases hx with rfl|rfl<;>omega
    ·split at hx
     ·simp at hx
      rcases hx with rfl|rfl|rfl|rfl<;>omega
     ·simp at hx
  ·unfold Gs at hx
   obtain⟨c,hc,hx⟩:=List.mem_flatMap.mp hx;have f:=h.gI c hc;have:=f.m0;have:=f.m1;have:=f.s0;have:=f.s1;simp at hx;rcases hx with rfl|rfl<;>omega
 ·split at hx
  ·simp at hx
   rcases hx with rfl|rfl<;>omega
  ·simp at hx
theorem auA{o:M.Op}(h:kN o)(k:Nat)(x:Int)(hs:(iz o.af)[k]?=some (Char.ofNat 117))(hx:(iH o)[k]?=some x):0<=x/\x<=255:=by
 have b1:=h.size;have b2:=h.aE;have b3:=h.aT;have b4:=h.below;have b5:=h.left;have b6:=h.right;unfold fQ at b1 b2 b3 b4 b5 b6;have len:(iz o.af).length<=8:=by rcases Lw h with k|k|k|k|k|k|k|k|k|k<;>rw[k]<;>decide
 have hk:k<8:=by have:=M.bP hs;omega
 have no:∀(l:List Char),l[k]?=some (Char.ofNat 117)->((Char.ofNat 117) ∉ l)->False:=fun l hl hn=>hn (bU hl);unfold iH at hx;rcases Lw h with e|e|e|e|e|e|e|e|e|e<;>rw[e] at hs hx
 ·rcases Nat.eq_zero_or_pos k with rfl|h0
  ·simp at hx;omega
  ·exact aN hs (by rcases(show k=1\/k=2\/k=3\/k=4\/k=5\/k=6\/k=7 by omega) with rfl|rfl|rfl|rfl|rfl|rfl|rfl<;>decide)
 ·rcases Nat.eq_zero_or_pos k with rfl|h0
  ·simp at hx;omega
  ·exact aN hs (by rcases(show k=1\/k=2\/k=3\/k=4\/k=5\/k=6\/k=7 by omega) with rfl|rfl|rfl|rfl|rfl|rfl|rfl<;>decide)
 ·exact(no _ hs (by decide)).elim
 ·exact(no _ hs (by decide)).elim
 ·rcases(show k=0\/k=1\/k=2\/k=3\/k=4\/k=5\/k=6\/k=7 by omega) with rfl|rfl|rfl|rfl|rfl|rfl|rfl|rfl
  ·simp at hx;omega
  ·simp at hx;omega
  all_goals exact aN hs (by decide)
 ·rcases(show k=0\/k=1\/k=2\/k=3\/k=4\/k=5\/k=6\/k=7 by omega) with rfl|rfl|rfl|rfl|rfl|rfl|rfl|rfl
  ·simp at hx;omega
  ·simp at hx;omega
  all_goals exact aN hs (by decide)
 ·exact(no _ hs (by decide)).elim
 ·rcases(show k=0\/k=1\/k=2\/k=3\/k=4\/k=5\/k=6\/k=7 by omega) with rfl|rfl|rfl|rfl|rfl|rfl|rfl|rfl
  ·simp at hx;omega
  ·simp at hx;omega
  ·simp at hx;omega
  ·simp at hx;omega
  all_goals exact aN hs (by decide)
 ·exact(no _ hs (by decide)).elim
 ·exact(no _ hs (by decide)).elim
theorem auB{o:M.Op}(h:kN o):WfR (bJ o):=
 ⟨auv h,h.to.1,h.to.2,aut h,auu h,auz h,auy h,auA h⟩
theorem afV{t:M.Tn}(h:yN t):dZ t:=⟨h.k0,h.k1,h.h0,h.h1,h.w0,h.w1,h.c0,h.c1,h.z0,h.z1⟩
theorem afW{t:M.Tn}(h:yN t):(∀x∈t.data,-2147483648<=x/\x<=2147483647)/\t.data.length<=16777216:=by
 have m3:=xn h.h0 h.h1 h.w0 h.w1 h.c0 h.c1;by_cases k1:t.af=1
 ·obtain⟨e,b⟩:=h.lr k1
  exact⟨fun x hx=>by have:=b x hx;omega,by omega⟩
 ·by_cases k2:t.af=2
  ·obtain⟨e,b⟩:=h.MD k2
   exact⟨b,by omega⟩
  ·rw[h.Xl k1 k2]
   exact⟨fun x hx=>aN hx (by simp),by simp⟩
theorem afX{m:M.Md}(h:ow m):EX (dp m):=by
 refine⟨h.nt,by show(m.ag.map bJ).length<=255;rw[jb];exact h.no,h.nu,fun t ht=>afV (h.ts t ht),fun t ht=>(afW (h.ts t ht)).1,fun t ht=>(afW (h.ts t ht)).2,fun o ho=>?_,fun u hu=>h.us u hu⟩;obtain⟨p,hp,rfl⟩:=List.mem_map.mp ho;exact auB (h.os p hp)
theorem auC{s:ByteArray}(hs:s.size<=4096)(h:R.fh s.data.toList=none):M.fh s=2:=by
 rw[adx] at h;have hp:M.nY s=2:=by
  unfold M.nY;rw[ak (by omega)]
  split at h
  ·rename_i c;rw[ay c]
  ·exact aN h (by simp)
 unfold M.fh;rw[ay (by rw[hp];decide),hp]
theorem auD{s:ByteArray}(hs:s.size<=4096){g:bX}(h:R.fh s.data.toList=some g):g=dp (M.gD s).1/\ow (M.gD s).1/\M.fh s=R.sB g:=by
 rw[adx] at h
 split at h
 ·exact aN h (by simp)
 ·rename_i c
  injection h with h;have hb:(M.gD s).2.gg=false:=by
   cases e:(M.gD s).2.gg with
   |false=>rfl
   |true=>rw[e] at c;exact aN rfl c
  have F:=M.Xn s hb;have hp:M.nY s=0:=by unfold M.nY;rw[ak (by omega),ak c]
  refine⟨h.symm,F,?_⟩;rw[<-h,ari F];unfold M.fh;rw[ak (by rw[hp];decide)]
theorem auE{s:ByteArray}(hs:4096<s.size):M.fh s=1:=by
 have hp:M.nY s=1:=by unfold M.nY;rw[ay hs]
 unfold M.fh;rw[ay (by rw[hp];decide),hp]
end R
end Go.Proofs.YtcnhfffgbamonaaGreat
