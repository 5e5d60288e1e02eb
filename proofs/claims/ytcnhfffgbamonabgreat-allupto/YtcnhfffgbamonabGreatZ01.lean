import Derived.Test.YtcnhfffgbamonabGreatZ00
set_option maxRecDepth 100000
set_option maxHeartbeats 6400000
namespace Go.Proofs.YtcnhfffgbamonabGreat
open Go.Proofs.Tryz
open Go.RowKit
theorem Tryz.agT:(prog.info? 106).map (fun i=>(i.zero,i.size,i.bytes))=some (some (.agg #[.int .i64 0,.int .i64 0,.int .i64 0,.int .i64 0,.int .i64 0,.slice none 0 0]),6,64):=by kernel_rfl
theorem agU(b:Nat)(s:ByteArray)(r:M.RS)(w:World)(h:Rd w b s r)(hp:r.bG<=s.size)(hs:s.size<=4096) :
  Calls prog 125 #[.pointer (some ⟨b,0,none⟩)] w fun e w'=>∃t ao m c r',Hid (M.fF s r=(t,r'))/\dW t/\r'.bG<=s.size /\
   e=.returned (.agg #[.int .i64 t.af,.int .i64 t.h,.int .i64 t.w,.int .i64 t.c,.int .i64 t.zero,.slice ao m c])/\aZ w' w.heap.size (.slice ao m c) t.data/\Rd w' b s r'/\w.grownBy w' (some b):=
 (agQ b s r w h hp hs).mono fun e w' ⟨t,dv,r',h1,h2,h3,h4,h5,h6,h7⟩=>by
  obtain⟨ao,m,c,rfl⟩:=h5.bT;exact⟨t,ao,m,c,r',h1,h2,h3,h4,h5,h6,h7⟩
def ir(w:World)(base:Nat)(v:Value)(ts:List M.Tn):Prop:=
 ∃ps:List (M.Tn×Value),ps.map (·.1)=ts/\w.ownsRow base 106 6 v ts.length (ps.flatMap fun p=>(bg p.1 p.2).toList)/\∀p∈ps,aZ w base p.2 p.1.data
theorem ir.nil(w:World)(base:Nat):ir w base (.slice none 0 0) []:=⟨[],rfl,kq _ _ _ _,by simp⟩
theorem m9{w:World}{base base':Nat}{e:TypeId}{size n:Nat}{v:Value}{xs:List Value}(h:w.ownsRow base e size v n xs)(hb:base'<=base):w.ownsRow base' e size v n xs:=by
 refine⟨h.1,?_⟩;rcases h.2 with h2|⟨g,cap,dV,h1,h2,h3⟩
 ·exact .inl h2
 ·exact .inr ⟨g,cap,dV,h1,jK hb h2,h3⟩
theorem pf{w w':World}{base b:Nat}{e:TypeId}{size n:Nat}{v:Value}{xs:List Value}(h:w.ownsRow base e size v n xs)(hg:w.grownBy w' (some b))(hb:b<base):w'.ownsRow base e size v n xs:=by
 refine World.ownsRow.kept h hg ?_
 cases hv:v.ownBlock with
 | none=>exact .inl rfl
 | some g=>exact .inr (by have:=(jd h g hv).1;intro e;injection e with e;omega)
theorem eW{w w':World}{base:Nat}{e:TypeId}{size n:Nat}{v:Value}{xs:List Value}(h:w.ownsRow base e size v n xs)(hg:w.grownBy w' none):w'.ownsRow base e size v n xs:=by
 refine World.ownsRow.kept h hg ?_
 cases hv:v.ownBlock with
 | none=>exact .inl rfl
 | some g=>exact .inr (by simp)
theorem nV{w w':World}{base Dp:Nat}{e e2:TypeId}{size agV n n2:Nat}{v v2:Value}{xs xs2:List Value}(h:w.ownsRow base e size v n xs)(h2:w.ownsRow Dp e2 agV v2 n2 xs2)(eF:e≠e2)(hg:w.grownBy w' v2.ownBlock):w'.ownsRow base e size v n xs:=by
 refine World.ownsRow.kept h hg ?_;rcases h.2 with⟨rfl,_⟩|⟨g,cap,dV,rfl,_,hh,_⟩
 ·exact .inl rfl
 ·refine .inr ?_
  rcases h2.2 with⟨rfl,_⟩|⟨g2,EY,avW,rfl,_,PN,_⟩
  ·simp[Value.ownBlock]
  ·simp only[Value.ownBlock,ne_eq,j8]
   intro e3;subst e3;rw[hh] at PN;simp at PN;exact eF PN.2
theorem mE{w:World}{base:Nat}{e:TypeId}{size n:Nat}{v:Value}{xs:List Value}(h:w.ownsRow base e size v n xs):∀g,v.ownBlock=some g->base<=g:=fun g hg=>(jd h g hg).1
theorem ir.kept{w w':World}{base b:Nat}{v:Value}{ts:List M.Tn}(h:ir w base v ts)(hg:w.grownBy w' (some b))(hb:b<base):ir w' base v ts:=by
 obtain⟨ps,h1,h2,h3⟩:=h;exact⟨ps,h1,pf h2 hg hb,fun p hp=>(h3 p hp).kept hg hb⟩
theorem ir.Z{w w':World}{base:Nat}{v:Value}{ts:List M.Tn}(h:ir w base v ts)(hg:w.grownBy w' none):ir w' base v ts:=by
 obtain⟨ps,h1,h2,h3⟩:=h;exact⟨ps,h1,eW h2 hg,fun p hp=>(h3 p hp).Z hg⟩
theorem ir.mono{w:World}{base base':Nat}{v:Value}{ts:List M.Tn}(h:ir w base v ts)(hb:base'<=base):ir w base' v ts:=by
 obtain⟨ps,h1,h2,h3⟩:=h;exact⟨ps,h1,m9 h2 hb,fun p hp=>(h3 p hp).mono hb⟩
theorem agX{α:Type}(f:M.RS->α×M.RS)(k j:Nat)(r:M.RS)(h:(M.eY f k r).2.fX=true):M.eY f (k+j) r=M.eY f k r:=by
 induction j with
 | zero=>rfl
 | succ j ih=>rw[<-Nat.add_assoc,M.eY,ih,ay h]
theorem VG{α:Type}(f:M.RS->α×M.RS)(k n:Nat)(r:M.RS)(hk:k<=n)(h:(M.eY f k r).2.fX=true):M.eY f n r=M.eY f k r:=by
 obtain⟨j,rfl⟩:=Nat.exists_eq_add_of_le hk;exact agX f k j r h
theorem VH{α:Type}(f:M.RS->α×M.RS)(k:Nat)(r:M.RS):(M.eY f k r).1.length<=k:=by
 induction k with
 | zero=>simp[M.eY]
 | succ k ih=>
  rw[M.eY]
  split
  ·omega
  ·simp;omega
theorem ir.pk{w w2:World}{B:Nat}{v v':Value}{ps:List (M.Tn×Value)}{ts:List M.Tn}{t:M.Tn}{dv:Value}(h1:ps.map (·.1)=ts)(h2:w.ownsRow B 106 6 v ts.length (ps.flatMap fun p=>(bg p.1 p.2).toList))(h3:∀p∈ps,aZ w B p.2 p.1.data)
  (hd:aZ w B dv t.data) (aM:w.grownBy w2 v.ownBlock)
  (cB:w2.ownsRow B 106 6 v' (ts.length+1) ((ps.flatMap fun p=>(bg p.1 p.2).toList)++(bg t dv).toList)):ir w2 B v' (ts++[t]):=by
 refine⟨ps++[(t,dv)],by simp[h1],by simpa using cB,?_⟩;intro p hp;rcases List.mem_append.1 hp with hp|hp
 ·exact nV (h3 p hp) h2 (by decide) aM
 ·simp at hp
  subst hp;exact nV hd h2 (by decide) aM
theorem agY(b:Nat)(s:ByteArray)(r:M.RS)(w:World)(h:Rd w b s r)(hp:r.bG<=s.size)(hs:s.size<=4096) :
  Calls prog 85 #[.pointer (some ⟨b,0,none⟩)] w fun e w'=>∃v ts r',Hid (M.au s r=(ts,r'))/\(∀t∈ts,dW t)/\ts.length<=255/\r'.bG<=s.size/\e=.returned v/\ir w' w.heap.size v ts/\Rd w' b s r'/\w.grownBy w' (some b):=by
 obtain⟨i0,hi,cQ,cR,cZ⟩:=info_parts Tryz.agT;have dh:=h.lt;go_enter func85,ntmps85;go_wp2_with fail;refine(jL b s r _ h hp (by omega)).mono ?_;rintro e w1⟨x1,r1,df,l1,u1,eV,rfl,gI,aH⟩;obtain⟨n,rfl⟩:=fR l1;go_wp2;go_loopw[4,5] (fun v i wr=>∃k:Nat,k<=n/\i=.int .i64 k/\Rd wr b s (M.eY (M.fF s) k r1).2/\(M.eY (M.fF s) k r1).2.bG<=s.size/\ir wr w.heap.size v (M.eY (M.fF s) k r1).1/\(∀t∈(M.eY (M.fF s) k r1).1,dW t)/\w.grownBy wr (some b)) (fun _ i _=>n-(intOf i).toNat)
 case atStart=>exact⟨0,bK _,rfl,gI,eV,ir.nil _ _,by simp[M.eY],aH⟩
 case round=>
  obtain⟨k,hk,rfl,jn,oJ,lI,lJ,aF⟩:=hrel;have GH:=VH (M.fF s) k r1;obtain⟨c0,c1,c2,f1,f2⟩:=jn.cells;clear c0 c1 f1 f2;by_cases aK:k<n
  ·cases fy:(M.eY (M.fF s) k r1).2.fX with
   | true=>
    rw[fy] at c2;have zL:=VG (M.fF s) k n r1 hk fy;have He:=ae zL;have Hb:=ae fy;clear zL fy;go_wp2;go_ret;exact⟨_,_,_,by simp only[Hid,M.au,df.out,ey,He.out],lJ,by omega,oJ,rfl,lI,jn,aF⟩
   | false=>
    rw[fy] at c2;have wV:M.eY (M.fF s) (k+1) r1=((M.eY (M.fF s) k r1).1++[(M.fF s (M.eY (M.fF s) k r1).2).1],(M.fF s (M.eY (M.fF s) k r1).2).2):=by rw[M.eY,ak (by simp[fy])]
    have Hs:=ae wV;clear wV fy;generalize (M.eY (M.fF s) k r1).1=ts at *;generalize (M.eY (M.fF s) k r1).2=rk at *;go_wp2_with fail;refine(agU b s rk _ jn oJ hs).mono ?_;rintro e w3⟨t,ao,m,c,r3,im,PO,qC,rfl,kY,kW,aU⟩;have jz:w.grownBy w3 (some b):=aC aF aU;obtain⟨ps,q1,q2,q3⟩:=lI.kept aU dh;have GI:=kY.mono aF.size;have Dq:=jz.size;clear lI kY aU jn c2 aF;go_wp2_with (at_builtin;refine ng _ rfl _ _ 87 rfl w.heap.size 106 i0 (.agg #[.int .i64 0,.int .i64 0,.int .i64 0,.int .i64 0,.int .i64 0,.slice none 0 0]) 6 64 underlying87 hi cQ cR cZ rfl (by decide) _ _ _ rfl ((q2.alloc _).alloc _) ⟨w3.heap.size+1,0,none⟩ 1 1 (bg t (.slice ao m c)).toList rfl rfl ?c1 ?c2 ?c3 ?c4 ?c5 ?_)
    case c1=>exact VB w3 _ 106 _
    case c2=>intro u hu;simp[bg] at hu;rcases hu with rfl|rfl|rfl|rfl|rfl|rfl<;>rfl
    case c3=>unfold maxLen;omega
    case c4=>omega
    case c5=>simp;omega
    intro v' w4 dC cV _;have bC:w3.grownBy w4 u4.ownBlock:=by
     have:=aC (nT w3 _ _ _) cV;exact this
    have zM:=ir.pk q1 q2 q3 GI bC dC;have dR:=mE q2;have sF:w.grownBy w4 (some b):=mA jz bC dR;have jb:Rd w4 b s r3:=aj.kept kW bC (by intro e;have:=dR b e.symm;omega);clear dC cV bC q2 q3 GI jz kW dR;go_wp2;go_roundw
    case rel=>
     have e1:=Hs.out;rw[im.out] at e1;refine⟨k+1,by omega,by go_num,?_,?_,?_,?_,sF⟩
     ·rw[e1];exact jb
     ·rw[e1];exact qC
     ·rw[e1];exact zM
     ·rw[e1];intro t' ig
      rcases List.mem_append.1 ig with h' | h'
      ·exact lJ t' h'
      ·simp at h';subst h';exact PO
    case measure=>simp[intOf];omega
  ·obtain rfl:k=n:=by omega
   clear c2;go_wp2;go_ret;exact⟨_,_,_,by simp only[Hid,M.au,df.out,ey],lJ,by omega,oJ,rfl,lI,jn,aF⟩
theorem Tryz.agZ:(prog.info? 221).map (fun i=>(i.zero,i.size,i.bytes))=some (some (.agg #[.int .i64 0,.int .i64 0]),2,16):=by kernel_rfl
def Ds(c:M.Sc):List Value:=[.int .i64 c.eE,.int .i64 c.shift]
def gy(w:World)(base:Nat)(v:Value)(xs:List M.Sc):Prop:=w.ownsRow base 221 2 v xs.length (xs.flatMap Ds)
theorem gy.bT{w:World}{base:Nat}{v:Value}{xs:List M.Sc}(h:gy w base v xs):∃ao m c,v=.slice ao m c:=by
 rcases h.2 with⟨rfl,_⟩|⟨g,cap,dV,rfl,_⟩
 ·exact⟨_,_,_,rfl⟩
 ·exact⟨_,_,_,rfl⟩
structure qF(c:M.Sc):Prop where
 m0:-2147483648<=c.eE
 m1:c.eE<=2147483647
 s0:-128<=c.shift
 s1:c.shift<=127
theorem ag0{s:ByteArray}{r r1 r2:M.RS}{x y:Int}(h1:M.kU s r=(x,r1))(h2:M.dK s r1=(y,r2)):M.gT s r=(⟨x,y⟩,r2):=by simp only[M.gT,h1,h2]
theorem kb(w:World)(T:TypeId)(cs:Array Value):∀j u,cs.toList[j]?=some u->(w.alloc (.cells cs T)).cell? ((⟨w.heap.size,0,none⟩:Addr).add j)=some u:=by
 intro j u hu;rw[wQ,(aj.bB w T cs).cell j]
 simpa using hu
theorem Ln(b:Nat)(s:ByteArray)(r:M.RS)(n:Nat)(w:World)(h:Rd w b s r)(hp:r.bG<=s.size)(hs:s.size<=4096)(hn:n<=3) :
  Calls prog 173 #[.pointer (some ⟨b,0,none⟩),.int .i64 n] w fun e w'=>∃ao m c xs r',Hid (M.rep (M.gT s) n r=(xs,r'))/\(∀c∈xs,qF c)/\r'.bG<=s.size/\e=.returned (.slice ao m c)/\gy w' w.heap.size (.slice ao m c) xs/\Rd w' b s r'/\w.grownBy w' (some b):=by
 suffices hx:Calls prog 173 #[.pointer (some ⟨b,0,none⟩),.int .i64 n] w fun e w'=>∃v xs r',Hid (M.rep (M.gT s) n r=(xs,r'))/\(∀c∈xs,qF c)/\r'.bG<=s.size/\e=.returned v/\gy w' w.heap.size v xs/\Rd w' b s r'/\w.grownBy w' (some b) from
  hx.mono fun e w' ⟨v,xs,r',h1,h2,h3,h4,h5,h6⟩=>by
   obtain⟨ao,m,c,rfl⟩:=h5.bT;exact⟨ao,m,c,xs,r',h1,h2,h3,h4,h5,h6⟩
 obtain⟨i0,hi,cQ,cR,cZ⟩:=info_parts Tryz.agZ;have dh:=h.lt;go_enter func173,ntmps173;go_wp2;go_loopw[5,6] (fun v i wr=>∃k:Nat,k<=n/\i=.int .i64 k/\Rd wr b s (M.rep (M.gT s) k r).2/\(M.rep (M.gT s) k r).2.bG<=s.size/\gy wr w.heap.size v (M.rep (M.gT s) k r).1/\(∀c∈(M.rep (M.gT s) k r).1,qF c)/\w.grownBy wr (some b)) (fun _ i _=>n-(intOf i).toNat)
 case atStart=>exact⟨0,bK _,rfl,h,hp,kq _ _ _ _,by simp[M.rep],gL _ _⟩
 case round=>
  obtain⟨k,hk,rfl,jn,oJ,lI,lJ,aF⟩:=hrel;have GH:=Bp (M.gT s) k r;by_cases aK:k<n
  ·have wV:M.rep (M.gT s) (k+1) r=((M.rep (M.gT s) k r).1++[(M.gT s (M.rep (M.gT s) k r).2).1],(M.gT s (M.rep (M.gT s) k r).2).2):=rfl
   have Hs:=ae wV;clear wV;generalize (M.rep (M.gT s) k r).1=xs at *;generalize (M.rep (M.gT s) k r).2=rk at *;have Hl:=ae GH;clear GH;have EZ:=aF.size;go_wp2_with fail;refine(VD b s rk _ (aj.alloc jn _) oJ (by omega)).mono ?_;rintro e w3⟨x,r3,im,l3,u3,qC,rfl,kW,aU⟩;have yh:aj w3 wr.heap.size 221 #[.int .i64 0,.int .i64 0]:=(aj.bB wr 221 _).kept aU (by simp;omega);have VI:wr.grownBy w3 (some b):=aC (aQ _ _ _) aU;have a3:w3.cell? ⟨wr.heap.size,0,none⟩=some (.int .i64 0):=yh.cell 0;have b3:=yh.free 0;clear aU;go_wp2_with fail;refine(pe b s r3 _ (aj.yf kW (by simp;omega) _) qC (by omega)).mono ?_;rintro e w4⟨y,r4,gU,l4,u4,mB,rfl,jb,bm⟩;have Lo:aj w4 wr.heap.size 221 #[.int .i64 x,.int .i64 0]:=(yh.set 0 _).kept bm (by simp;omega);have VJ:wr.grownBy w4 (some b):=aC (dF VI (bD _ _ _ _) (bj _)) bm;clear bm yh a3 b3 VI kW;have a4:w4.cell? ⟨wr.heap.size,1,none⟩=some (.int .i64 0):=Lo.cell 1;have d4:w4.cell? ⟨wr.heap.size,0,none⟩=some (.int .i64 x):=Lo.cell 0;have b4:=Lo.free 1;have j5:Rd (w4.setCell ⟨wr.heap.size,1,none⟩ (.int .i64 y)) b s r4:=aj.yf jb (by simp;omega) _;have PQ:wr.grownBy (w4.setCell ⟨wr.heap.size,1,none⟩ (.int .i64 y)) (some b):=dF VJ (bD _ _ _ _) (bj _);have q5:=pf (base:=w.heap.size) lI PQ dh;have Dt:=aC aF PQ;have ag1:=Dt.size;clear lI aF PQ VJ Lo jb jn;go_wp2_with (at_builtin;refine ng _ rfl _ _ 91 rfl w.heap.size 221 i0 (.agg #[.int .i64 0,.int .i64 0]) 2 16 underlying91 hi cQ cR cZ rfl (by decide) _ _ _ rfl (q5.alloc _) ⟨w4.heap.size,0,none⟩ 1 1 (Ds ⟨x,y⟩) rfl rfl ?c1 ?c2 ?c3 ?c4 ?c5 ?_)
   case c1=>have e:=kb (w4.setCell ⟨wr.heap.size,1,none⟩ (.int .i64 y)) 221 #[.int .i64 x,.int .i64 y];rw[yi] at e;exact e
   case c2=>intro u hu;simp[Ds] at hu;rcases hu with rfl|rfl<;>rfl
   case c3=>have:=Hl.out;unfold maxLen;omega
   case c4=>have:=Hl.out;omega
   case c5=>simp at ag1 ⊢;omega
   intro v' w6 dC cV _;have bC:(w4.setCell ⟨wr.heap.size,1,none⟩ (.int .i64 y)).grownBy w6 u5.ownBlock:=aC (aQ _ _ _) cV;have Lp:=mE q5;have yj:w.grownBy w6 (some b):=mA Dt bC Lp;have oK:Rd w6 b s r4:=aj.kept j5 bC (by intro e;have:=Lp b e.symm;omega);have Du:gy w6 w.heap.size v' (xs++[⟨x,y⟩]):=by
    have:=dC;unfold gy
    simpa using this
   clear dC cV bC q5 Dt j5 Lp;go_wp2;go_roundw
   case rel=>
    have e1:=Hs.out;rw[ag0 im.out gU.out] at e1;refine⟨k+1,by omega,by go_num,?_,?_,?_,?_,yj⟩
    ·rw[e1];exact oK
    ·rw[e1];exact mB
    ·rw[e1];exact Du
    ·rw[e1];intro t' ig
     rcases List.mem_append.1 ig with h' | h'
     ·exact lJ t' h'
     ·simp at h';subst h';exact⟨l3,u3,l4,u4⟩
   case measure=>simp[intOf];omega
  ·obtain rfl:k=n:=by omega
   clear GH;go_wp2;go_ret;exact⟨_,_,_,rfl,lJ,oJ,rfl,lI,jn,aF⟩
abbrev aR(af a b we bi to size aE:Int)(same:Bool)(sv:Value)(lo hi aS below left right:Int):Array Value:=
 #[.int .i64 af,.int .i64 a,.int .i64 b,.int .i64 we,.int .i64 bi,.int .i64 to,.int .i64 size,.int .i64 aE,.bool same,sv,.int .i64 lo,.int .i64 hi,.int .i64 aS,.int .i64 below,.int .i64 left,.int .i64 right]
def aO(o:M.Op)(sv:Value):Array Value:=aR o.af o.a o.b o.aP o.bA o.to o.size o.aE o.same sv o.lo o.hi o.aS o.below o.left o.right
structure gM(w w':World)(b L:Nat):Prop where
 os:w'.os=w.os
 tape:w'.tape=w.tape
 output:w'.output=w.output
 size:w.heap.size<=w'.heap.size
 block:∀k,k<w.heap.size->k≠b->k≠L->w'.heap[k]?=w.heap[k]?
theorem gM.refl(w:World)(b L:Nat):gM w w b L:=⟨rfl,rfl,rfl,bj _,fun _ _ _ _=>rfl⟩
theorem gM.trans{w0 w1 w2:World}{b L:Nat}(h:gM w0 w1 b L)(k:gM w1 w2 b L):gM w0 w2 b L:=
 ⟨k.os.trans h.os,k.tape.trans h.tape,k.output.trans h.output,jK h.size k.size,fun i hi h1 h2=>(k.block i (qB hi h.size) h1 h2).trans (h.block i hi h1 h2)⟩
theorem gM.of{w0 w1:World}{b L:Nat}(h:w0.grownBy w1 (some b)):gM w0 w1 b L:=⟨h.os,h.tape,h.output,h.size,fun i hi h1 _=>h.block i hi (by simp[h1])⟩
theorem gM.of0{w0 w1:World}{b L:Nat}(h:w0.grownBy w1 none):gM w0 w1 b L:=⟨h.os,h.tape,h.output,h.size,fun i hi _ _=>h.block i hi (by simp)⟩
theorem gM.set(w:World)(b L i:Nat)(v:Value):gM w (w.setCell ⟨L,i,none⟩ v) b L:=⟨rfl,rfl,rfl,by simp,fun k _ _ h2=>Below.heap_setCell _ _ _ _ (by simpa using h2)⟩
theorem gM.ag3{a w w':World}{b L:Nat}(h:a.grownBy w (some b))(k:gM w w' b L)(hL:a.heap.size<=L):a.grownBy w' (some b):=
 ⟨k.os.trans h.os,k.tape.trans h.tape,k.output.trans h.output,jK h.size k.size,fun i hi h1=>(k.block i (qB hi h.size) (by intro e;exact h1 (by simp[e])) (by omega)).trans (h.block i hi h1)⟩
structure dD(w0 w1:World)(b L:Nat)(s:ByteArray)(r:M.RS)(cs:Array Value):Prop where
 R:Rd w1 b s r
 B:aj w1 L 93 cs
 g:gM w0 w1 b L
 ne:b≠L
theorem dD.call{w0 w1 w2:World}{b L:Nat}{s:ByteArray}{r r':M.RS}{cs:Array Value}(h:dD w0 w1 b L s r cs)(hR:Rd w2 b s r')(hg:w1.grownBy w2 (some b)):dD w0 w2 b L s r' cs:=
 ⟨hR,h.B.kept hg (by intro e;injection e with e;exact h.ne e.symm),h.g.trans (gM.of hg),h.ne⟩
theorem dD.gV{w0 w1 w2:World}{b L:Nat}{s:ByteArray}{r:M.RS}{cs:Array Value}(h:dD w0 w1 b L s r cs)(hg:w1.grownBy w2 none):dD w0 w2 b L s r cs:=
 ⟨aj.kept h.R hg (by simp),h.B.kept hg (by simp),h.g.trans (gM.of0 hg),h.ne⟩
theorem dD.put{w0 w1:World}{b L:Nat}{s:ByteArray}{r:M.RS}{cs:Array Value}(h:dD w0 w1 b L s r cs)(i:Nat)(v:Value):dD w0 (w1.setCell ⟨L,i,none⟩ v) b L s r (cs.setIfInBounds i v):=
 ⟨aj.yf h.R (by simpa using h.ne) _,h.B.set i v,h.g.trans (gM.set _ _ _ _ _),h.ne⟩
theorem dS{w:World}{L T:Nat}{af a b we bi to size aE:Int}{same:Bool}{sv:Value}{lo hi aS below left right:Int}(h:aj w L T (aR af a b we bi to size aE same sv lo hi aS below left right)) :
  w.cell? ⟨L,0,none⟩=some (.int .i64 af)/\w.cell? ⟨L,1,none⟩=some (.int .i64 a)/\w.cell? ⟨L,2,none⟩=some (.int .i64 b)/\w.cell? ⟨L,3,none⟩=some (.int .i64 we)/\w.cell? ⟨L,4,none⟩=some (.int .i64 bi)/\w.cell? ⟨L,5,none⟩=some (.int .i64 to) /\
  w.cell? ⟨L,6,none⟩=some (.int .i64 size)/\w.cell? ⟨L,7,none⟩=some (.int .i64 aE)/\w.cell? ⟨L,8,none⟩=some (.bool same)/\w.cell? ⟨L,9,none⟩=some sv/\w.cell? ⟨L,10,none⟩=some (.int .i64 lo)/\w.cell? ⟨L,11,none⟩=some (.int .i64 hi) /\
  w.cell? ⟨L,12,none⟩=some (.int .i64 aS)/\w.cell? ⟨L,13,none⟩=some (.int .i64 below)/\w.cell? ⟨L,14,none⟩=some (.int .i64 left)/\w.cell? ⟨L,15,none⟩=some (.int .i64 right):=
 ⟨h.cell 0,h.cell 1,h.cell 2,h.cell 3,h.cell 4,h.cell 5,h.cell 6,h.cell 7,h.cell 8,h.cell 9,h.cell 10,h.cell 11,h.cell 12,h.cell 13,h.cell 14,h.cell 15⟩
structure lW(o:M.Op):Prop where
 af:0<=o.af/\o.af<=10
 a:0<=o.a/\o.a<=255
 b:0<=o.b/\o.b<=255
 aP:0<=o.aP/\o.aP<=255
 bA:0<=o.bA/\o.bA<=255
 to:0<=o.to/\o.to<=255
 size:0<=o.size/\o.size<=255
 aE:0<=o.aE/\o.aE<=255
 lo:-128<=o.lo/\o.lo<=127
 hi:-128<=o.hi/\o.hi<=127
 aS:0<=o.aS/\o.aS<=255
 below:0<=o.below/\o.below<=255
 left:0<=o.left/\o.left<=255
 right:0<=o.right/\o.right<=255
 bM:∀c∈o.bM,qF c
theorem rl(k:Int)(v1 v2 v3 v4 v5 v6 v7 v8 v9 Dw Dx Bt GJ GK GL:Value)(x:Bool)(w:World)(hx:M.cm k=x) :
  Calls prog 97 #[.agg #[.int .i64 k,v1,v2,v3,v4,v5,v6,v7,v8,v9,Dw,Dx,Bt,GJ,GK,GL]] w fun e w'=>e=.returned (.bool x)/\w.grownBy w' none:=by
 subst hx;unfold M.cm;by_cases h1:k=1
 ·subst h1
  go_enter func97,ntmps97;go_wp2;go_ret;exact⟨rfl,aQ _ _ _⟩
 ·have n1:(k==1)=false:=by simp[h1]
  clear h1;by_cases h2:k=2
  ·subst h2
   go_enter func97,ntmps97;go_wp2;go_ret;exact⟨rfl,aQ _ _ _⟩
  ·have n2:(k==2)=false:=by simp[h2]
   clear h2;go_enter func97,ntmps97;go_wp2;go_ret;exact⟨bq (by simp[n1,n2]),aQ _ _ _⟩
theorem Ls(k:Int)(v1 v2 v3 v4 v5 v6 v7 v8 v9 Dw Dx Bt GJ GK GL:Value)(x:Bool)(w:World)(hx:M.dr k=x) :
  Calls prog 98 #[.agg #[.int .i64 k,v1,v2,v3,v4,v5,v6,v7,v8,v9,Dw,Dx,Bt,GJ,GK,GL]] w fun e w'=>e=.returned (.bool x)/\w.grownBy w' none:=by
 subst hx;unfold M.dr;by_cases h1:k=4
 ·subst h1
  go_enter func98,ntmps98;go_wp2;go_ret;exact⟨rfl,aQ _ _ _⟩
 ·have n1:(k==4)=false:=by simp[h1]
  clear h1;go_enter func98,ntmps98;go_wp2;go_ret;exact⟨bq (by simp[n1]),aQ _ _ _⟩
theorem u9(k:Int)(v1 v2 v3 v4 v5 v6 v7 v8 v9 Dw Dx Bt GJ GK GL:Value)(x:Bool)(w:World)(hx:(decide (1<=k)&&decide (k<=7))=x) :
  Calls prog 135 #[.agg #[.int .i64 k,v1,v2,v3,v4,v5,v6,v7,v8,v9,Dw,Dx,Bt,GJ,GK,GL]] w fun e w'=>e=.returned (.bool x)/\w.grownBy w' none:=by
 by_cases h1:k<1
 ·have He:=ae (show x=false by rw[<-hx];simp;omega)
  clear hx;go_enter func135,ntmps135;go_wp2;go_ret;exact⟨bq (by rw[He.out]),aQ _ _ _⟩
 ·by_cases h2:7<k
  ·have He:=ae (show x=false by rw[<-hx];simp;omega)
   clear hx;go_enter func135,ntmps135;go_wp2;go_ret;exact⟨bq (by rw[He.out];simp;omega),aQ _ _ _⟩
  ·have He:=ae (show x=true by rw[<-hx];simp;omega)
   clear hx;go_enter func135,ntmps135;go_wp2;go_ret;exact⟨bq (by rw[He.out]),aQ _ _ _⟩
theorem nX{w w':World}{base b:Nat}{v:Value}{xs:List M.Sc}(h:w.ownsRow base 221 2 v xs.length (xs.flatMap Ds))(hg:w.grownBy w' (some b))(hb:b<base):w'.ownsRow base 221 2 v xs.length (xs.flatMap Ds):=pf h hg hb
end Go.Proofs.YtcnhfffgbamonabGreat
