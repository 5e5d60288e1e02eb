import Derived.Test.YtcnhfffgbamonaaGreatZ00
set_option maxRecDepth 100000
set_option maxHeartbeats 6400000
namespace Go.Proofs.YtcnhfffgbamonaaGreat
open Go.Proofs.Tryz
open Go.RowKit
theorem Tryz.ahT:(prog.info? 158).map (fun i=>(i.zero,i.size,i.bytes))=some (some (.agg #[.int .i64 0,.int .i64 0,.int .i64 0,.int .i64 0,.int .i64 0,.slice none 0 0]),6,64):=by kernel_rfl
theorem ahU(b:Nat)(s:ByteArray)(r:M.RS)(w:World)(h:Rd w b s r)(hp:r.bG<=s.size)(hs:s.size<=4096) :
  Calls prog 162 #[.pointer (some ⟨b,0,none⟩)] w fun e w'=>∃t ao m c r',Hid (M.fH s r=(t,r'))/\dZ t/\r'.bG<=s.size /\
   e=.returned (.agg #[.int .i64 t.af,.int .i64 t.h,.int .i64 t.w,.int .i64 t.c,.int .i64 t.zero,.slice ao m c])/\aZ w' w.heap.size (.slice ao m c) t.data/\Rd w' b s r'/\w.grownBy w' (some b) :=
 (ahQ b s r w h hp hs).mono fun e w' ⟨t,dv,r',h1,h2,h3,h4,h5,h6,h7⟩=>by
  obtain⟨ao,m,c,rfl⟩:=h5.bT;exact⟨t,ao,m,c,r',h1,h2,h3,h4,h5,h6,h7⟩
def ir(w:World)(base:Nat)(v:Value)(ts:List M.Tn):Prop :=
 ∃ps:List (M.Tn×Value),ps.map (·.1)=ts/\w.ownsRow base 158 6 v ts.length (ps.flatMap fun p=>(bg p.1 p.2).toList)/\∀p∈ps,aZ w base p.2 p.1.data
theorem ir.nil(w:World)(base:Nat):ir w base (.slice none 0 0) []:=⟨[],rfl,ki _ _ _ _,by simp⟩
theorem nC{w:World}{base base':Nat}{e:TypeId}{size n:Nat}{v:Value}{xs:List Value}(h:w.ownsRow base e size v n xs)(hb:base'<=base):w.ownsRow base' e size v n xs:=by
 refine⟨h.1,?_⟩;rcases h.2 with h2|⟨g,cap,dY,h1,h2,h3⟩
 ·exact .inl h2
 ·exact .inr ⟨g,cap,dY,h1,jN hb h2,h3⟩
theorem px{w w':World}{base b:Nat}{e:TypeId}{size n:Nat}{v:Value}{xs:List Value}(h:w.ownsRow base e size v n xs)(hg:w.grownBy w' (some b))(hb:b<base):w'.ownsRow base e size v n xs:=by
 refine World.ownsRow.kept h hg ?_
 cases hv:v.ownBlock with
 | none=>exact .inl rfl
 | some g=>exact .inr (by have:=(iL h g hv).1;intro e;injection e with e;omega)
theorem eY{w w':World}{base:Nat}{e:TypeId}{size n:Nat}{v:Value}{xs:List Value}(h:w.ownsRow base e size v n xs)(hg:w.grownBy w' none):w'.ownsRow base e size v n xs:=by
 refine World.ownsRow.kept h hg ?_
 cases hv:v.ownBlock with
 | none=>exact .inl rfl
 | some g=>exact .inr (by simp)
theorem oc{w w':World}{base DF:Nat}{e e2:TypeId}{size ahV n n2:Nat}{v v2:Value}{xs xs2:List Value}(h:w.ownsRow base e size v n xs)(h2:w.ownsRow DF e2 ahV v2 n2 xs2)(ey:e≠e2)(hg:w.grownBy w' v2.ownBlock):w'.ownsRow base e size v n xs:=by
 refine World.ownsRow.kept h hg ?_;rcases h.2 with⟨rfl,_⟩|⟨g,cap,dY,rfl,_,hh,_⟩
 ·exact .inl rfl
 ·refine .inr ?_
  rcases h2.2 with⟨rfl,_⟩|⟨g2,Fq,aw3,rfl,_,Qp,_⟩
  ·simp[Value.ownBlock]
  ·simp only[Value.ownBlock,ne_eq,kj]
   intro e3;subst e3;rw[hh] at Qp;simp at Qp;exact ey Qp.2
theorem mJ{w:World}{base:Nat}{e:TypeId}{size n:Nat}{v:Value}{xs:List Value}(h:w.ownsRow base e size v n xs):∀g,v.ownBlock=some g->base<=g:=fun g hg=>(iL h g hg).1
theorem ir.kept{w w':World}{base b:Nat}{v:Value}{ts:List M.Tn}(h:ir w base v ts)(hg:w.grownBy w' (some b))(hb:b<base):ir w' base v ts:=by
 obtain⟨ps,h1,h2,h3⟩:=h;exact⟨ps,h1,px h2 hg hb,fun p hp=>(h3 p hp).kept hg hb⟩
theorem ir.Z{w w':World}{base:Nat}{v:Value}{ts:List M.Tn}(h:ir w base v ts)(hg:w.grownBy w' none):ir w' base v ts:=by
 obtain⟨ps,h1,h2,h3⟩:=h;exact⟨ps,h1,eY h2 hg,fun p hp=>(h3 p hp).Z hg⟩
theorem ir.mono{w:World}{base base':Nat}{v:Value}{ts:List M.Tn}(h:ir w base v ts)(hb:base'<=base):ir w base' v ts:=by
 obtain⟨ps,h1,h2,h3⟩:=h;exact⟨ps,h1,nC h2 hb,fun p hp=>(h3 p hp).mono hb⟩
theorem ahX{α:Type}(f:M.RS->α×M.RS)(k j:Nat)(r:M.RS)(h:(M.eZ f k r).2.gg=true):M.eZ f (k+j) r=M.eZ f k r:=by
 induction j with
 | zero=>rfl
 | succ j ih=>rw[<-Nat.add_assoc,M.eZ,ih,ay h]
theorem Ww{α:Type}(f:M.RS->α×M.RS)(k n:Nat)(r:M.RS)(hk:k<=n)(h:(M.eZ f k r).2.gg=true):M.eZ f n r=M.eZ f k r:=by
 obtain⟨j,rfl⟩:=Nat.exists_eq_add_of_le hk;exact ahX f k j r h
theorem Wx{α:Type}(f:M.RS->α×M.RS)(k:Nat)(r:M.RS):(M.eZ f k r).1.length<=k:=by
 induction k with
 | zero=>simp[M.eZ]
 | succ k ih =>
  rw[M.eZ]
  split
  ·omega
  ·simp;omega
theorem ir.py{w w2:World}{B:Nat}{v v':Value}{ps:List (M.Tn×Value)}{ts:List M.Tn}{t:M.Tn}{dv:Value}(h1:ps.map (·.1)=ts)(h2:w.ownsRow B 158 6 v ts.length (ps.flatMap fun p=>(bg p.1 p.2).toList))(h3:∀p∈ps,aZ w B p.2 p.1.data)
  (hd:aZ w B dv t.data) (aM:w.grownBy w2 v.ownBlock)
  (cB:w2.ownsRow B 158 6 v' (ts.length+1) ((ps.flatMap fun p=>(bg p.1 p.2).toList)++(bg t dv).toList)):ir w2 B v' (ts++[t]):=by
 refine⟨ps++[(t,dv)],by simp[h1],by simpa using cB,?_⟩;intro p hp;rcases List.mem_append.1 hp with hp|hp
 ·exact oc (h3 p hp) h2 (by decide) aM
 ·simp at hp
  subst hp;exact oc hd h2 (by decide) aM
theorem ahY(b:Nat)(s:ByteArray)(r:M.RS)(w:World)(h:Rd w b s r)(hp:r.bG<=s.size)(hs:s.size<=4096) :
  Calls prog 136 #[.pointer (some ⟨b,0,none⟩)] w fun e w'=>∃v ts r',Hid (M.au s r=(ts,r'))/\(∀t∈ts,dZ t)/\ts.length<=255/\r'.bG<=s.size/\e=.returned v/\ir w' w.heap.size v ts/\Rd w' b s r'/\w.grownBy w' (some b):=by
 obtain⟨i0,hi,cP,cQ,cZ⟩:=info_parts Tryz.ahT;have dh:=h.lt;go_enter func136,ntmps136;go_wp2_with fail;refine(jO b s r _ h hp (by omega)).mono ?_;rintro e w1 ⟨x1,r1,dg,l1,u1,eW,rfl,gK,aH⟩;obtain⟨n,rfl⟩:=fT l1;go_wp2;go_loopw[4,5] (fun v i wr=>∃k:Nat,k<=n/\i=.int .i64 k/\Rd wr b s (M.eZ (M.fH s) k r1).2/\(M.eZ (M.fH s) k r1).2.bG<=s.size/\ir wr w.heap.size v (M.eZ (M.fH s) k r1).1/\(∀t∈(M.eZ (M.fH s) k r1).1,dZ t)/\w.grownBy wr (some b)) (fun _ i _=>n-(intOf i).toNat)
 case atStart=>exact⟨0,bK _,rfl,gK,eW,ir.nil _ _,by simp[M.eZ],aH⟩
 case round =>
  obtain⟨k,hk,rfl,jw,oQ,lL,lM,aF⟩:=hrel;have Ih:=Wx (M.fH s) k r1;obtain⟨c0,c1,c2,f1,f2⟩:=jw.cells;clear c0 c1 f1 f2;by_cases aJ:k<n
  ·cases fB:(M.eZ (M.fH s) k r1).2.gg with
   | true =>
    rw[fB] at c2;have Aa:=Ww (M.fH s) k n r1 hk fB;have He:=ae Aa;have Hb:=ae fB;clear Aa fB;go_wp2;go_ret;exact⟨_,_,_,by simp only[Hid,M.au,dg.out,eC,He.out],lM,by omega,oQ,rfl,lL,jw,aF⟩
   | false =>
    rw[fB] at c2;have xp:M.eZ (M.fH s) (k+1) r1=((M.eZ (M.fH s) k r1).1++[(M.fH s (M.eZ (M.fH s) k r1).2).1],(M.fH s (M.eZ (M.fH s) k r1).2).2):=by rw[M.eZ,ak (by simp[fB])]
    have Hs:=ae xp;clear xp fB;generalize (M.eZ (M.fH s) k r1).1=ts at *;generalize (M.eZ (M.fH s) k r1).2=rk at *;go_wp2_with fail;refine(ahU b s rk _ jw oQ hs).mono ?_;rintro e w3 ⟨t,ao,m,c,r3,im,Qq,qO,rfl,lh,kZ,aU⟩;have jC:w.grownBy w3 (some b):=aC aF aU;obtain⟨ps,q1,q2,q3⟩:=lL.kept aU dh;have Ii:=lh.mono aF.size;have DG:=jC.size;clear lL lh aU jw c2 aF;go_wp2_with (at_builtin;refine nD _ rfl _ _ 136 rfl w.heap.size 158 i0 (.agg #[.int .i64 0,.int .i64 0,.int .i64 0,.int .i64 0,.int .i64 0,.slice none 0 0]) 6 64 underlying136 hi cP cQ cZ rfl (by decide) _ _ _ rfl ((q2.alloc _).alloc _) ⟨w3.heap.size+1,0,none⟩ 1 1 (bg t (.slice ao m c)).toList rfl rfl ?c1 ?c2 ?c3 ?c4 ?c5 ?_)
    case c1=>exact Wr w3 _ 158 _
    case c2=>intro u hu;simp[bg] at hu;rcases hu with rfl|rfl|rfl|rfl|rfl|rfl<;>rfl
    case c3=>unfold maxLen;omega
    case c4=>omega
    case c5=>simp;omega
    intro v' w4 dC cR _;have bq:w3.grownBy w4 u4.ownBlock:=by
     have:=aC (nZ w3 _ _ _) cR;exact this
    have Ab:=ir.py q1 q2 q3 Ii bq dC;have dR:=mJ q2;have sS:w.grownBy w4 (some b):=l8 jC bq dR;have jk:Rd w4 b s r3:=aj.kept kZ bq (by intro e;have:=dR b e.symm;omega);clear dC cR bq q2 q3 Ii jC kZ dR;go_wp2;go_roundw
    case rel =>
     have e1:=Hs.out;rw[im.out] at e1;refine⟨k+1,by omega,by go_num,?_,?_,?_,?_,sS⟩
     ·rw[e1];exact jk
     ·rw[e1];exact qO
     ·rw[e1];exact Ab
     ·rw[e1];intro t' ij
      rcases List.mem_append.1 ij with h' | h'
      ·exact lM t' h'
      ·simp at h';subst h';exact Qq
    case measure=>simp[intOf];omega
  ·obtain rfl:k=n:=by omega
   clear c2;go_wp2;go_ret;exact⟨_,_,_,by simp only[Hid,M.au,dg.out,eC],lM,by omega,oQ,rfl,lL,jw,aF⟩
theorem Tryz.ahZ:(prog.info? 224).map (fun i=>(i.zero,i.size,i.bytes))=some (some (.agg #[.int .i64 0,.int .i64 0]),2,16):=by kernel_rfl
def DH(c:M.Sc):List Value:=[.int .i64 c.eF,.int .i64 c.shift]
def gF(w:World)(base:Nat)(v:Value)(xs:List M.Sc):Prop:=w.ownsRow base 224 2 v xs.length (xs.flatMap DH)
theorem gF.bT{w:World}{base:Nat}{v:Value}{xs:List M.Sc}(h:gF w base v xs):∃ao m c,v=.slice ao m c:=by
 rcases h.2 with⟨rfl,_⟩|⟨g,cap,dY,rfl,_⟩
 ·exact⟨_,_,_,rfl⟩
 ·exact⟨_,_,_,rfl⟩
structure qQ(c:M.Sc):Prop where
 m0:-2147483648<=c.eF
 m1:c.eF<=2147483647
 s0:-128<=c.shift
 s1:c.shift<=127
theorem ah2{s:ByteArray}{r r1 r2:M.RS}{x y:Int}(h1:M.kX s r=(x,r1))(h2:M.dK s r1=(y,r2)):M.gX s r=(⟨x,y⟩,r2):=by simp only[M.gX,h1,h2]
theorem kb(w:World)(T:TypeId)(cs:Array Value):∀j u,cs.toList[j]?=some u->(w.alloc (.cells cs T)).cell? ((⟨w.heap.size,0,none⟩:Addr).add j)=some u:=by
 intro j u hu;rw[vy,(aj.bA w T cs).cell j]
 simpa using hu
theorem LY(b:Nat)(s:ByteArray)(r:M.RS)(n:Nat)(w:World)(h:Rd w b s r)(hp:r.bG<=s.size)(hs:s.size<=4096)(hn:n<=3) :
  Calls prog 194 #[.pointer (some ⟨b,0,none⟩),.int .i64 n] w fun e w'=>∃ao m c xs r',Hid (M.rep (M.gX s) n r=(xs,r'))/\(∀c∈xs,qQ c)/\r'.bG<=s.size/\e=.returned (.slice ao m c)/\gF w' w.heap.size (.slice ao m c) xs/\Rd w' b s r'/\w.grownBy w' (some b):=by
 suffices hx:Calls prog 194 #[.pointer (some ⟨b,0,none⟩),.int .i64 n] w fun e w'=>∃v xs r',Hid (M.rep (M.gX s) n r=(xs,r'))/\(∀c∈xs,qQ c)/\r'.bG<=s.size/\e=.returned v/\gF w' w.heap.size v xs/\Rd w' b s r'/\w.grownBy w' (some b) from
  hx.mono fun e w' ⟨v,xs,r',h1,h2,h3,h4,h5,h6⟩=>by
   obtain⟨ao,m,c,rfl⟩:=h5.bT;exact⟨ao,m,c,xs,r',h1,h2,h3,h4,h5,h6⟩
 obtain⟨i0,hi,cP,cQ,cZ⟩:=info_parts Tryz.ahZ;have dh:=h.lt;go_enter func194,ntmps194;go_wp2;go_loopw[5,6] (fun v i wr=>∃k:Nat,k<=n/\i=.int .i64 k/\Rd wr b s (M.rep (M.gX s) k r).2/\(M.rep (M.gX s) k r).2.bG<=s.size/\gF wr w.heap.size v (M.rep (M.gX s) k r).1/\(∀c∈(M.rep (M.gX s) k r).1,qQ c)/\w.grownBy wr (some b)) (fun _ i _=>n-(intOf i).toNat)
 case atStart=>exact⟨0,bK _,rfl,h,hp,ki _ _ _ _,by simp[M.rep],fZ _ _⟩
 case round =>
  obtain⟨k,hk,rfl,jw,oQ,lL,lM,aF⟩:=hrel;have Ih:=BG (M.gX s) k r;by_cases aJ:k<n
  ·have xp:M.rep (M.gX s) (k+1) r=((M.rep (M.gX s) k r).1++[(M.gX s (M.rep (M.gX s) k r).2).1],(M.gX s (M.rep (M.gX s) k r).2).2):=rfl
   have Hs:=ae xp;clear xp;generalize (M.rep (M.gX s) k r).1=xs at *;generalize (M.rep (M.gX s) k r).2=rk at *;have Hl:=ae Ih;clear Ih;have Ft:=aF.size;go_wp2_with fail;refine(Wt b s rk _ (aj.alloc jw _) oQ (by omega)).mono ?_;rintro e w3 ⟨x,r3,im,l3,u3,qO,rfl,kZ,aU⟩;have yB:aj w3 wr.heap.size 224 #[.int .i64 0,.int .i64 0]:=(aj.bA wr 224 _).kept aU (by simp;omega);have Wy:wr.grownBy w3 (some b):=aC (aQ _ _ _) aU;have a3:w3.cell? ⟨wr.heap.size,0,none⟩=some (.int .i64 0):=yB.cell 0;have b3:=yB.free 0;clear aU;go_wp2_with fail;refine(pt b s r3 _ (aj.yz kZ (by simp;omega) _) qO (by omega)).mono ?_;rintro e w4 ⟨y,r4,gY,l4,u4,mG,rfl,jk,bm⟩;have LZ:aj w4 wr.heap.size 224 #[.int .i64 x,.int .i64 0]:=(yB.set 0 _).kept bm (by simp;omega);have Wz:wr.grownBy w4 (some b):=aC (dF Wy (bD _ _ _ _) (bj _)) bm;clear bm yB a3 b3 Wy kZ;have a4:w4.cell? ⟨wr.heap.size,1,none⟩=some (.int .i64 0):=LZ.cell 1;have d4:w4.cell? ⟨wr.heap.size,0,none⟩=some (.int .i64 x):=LZ.cell 0;have b4:=LZ.free 1;have j9:Rd (w4.setCell ⟨wr.heap.size,1,none⟩ (.int .i64 y)) b s r4:=aj.yz jk (by simp;omega) _;have Qr:wr.grownBy (w4.setCell ⟨wr.heap.size,1,none⟩ (.int .i64 y)) (some b):=dF Wz (bD _ _ _ _) (bj _);have q5:=px (base:=w.heap.size) lL Qr dh;have DI:=aC aF Qr;have ah3:=DI.size;clear lL aF Qr Wz LZ jk jw;go_wp2_with (at_builtin;refine nD _ rfl _ _ 140 rfl w.heap.size 224 i0 (.agg #[.int .i64 0,.int .i64 0]) 2 16 underlying140 hi cP cQ cZ rfl (by decide) _ _ _ rfl (q5.alloc _) ⟨w4.heap.size,0,none⟩ 1 1 (DH ⟨x,y⟩) rfl rfl ?c1 ?c2 ?c3 ?c4 ?c5 ?_)
   case c1=>have e:=kb (w4.setCell ⟨wr.heap.size,1,none⟩ (.int .i64 y)) 224 #[.int .i64 x,.int .i64 y];rw[yC] at e;exact e
   case c2=>intro u hu;simp[DH] at hu;rcases hu with rfl|rfl<;>rfl
   case c3=>have:=Hl.out;unfold maxLen;omega
   case c4=>have:=Hl.out;omega
   case c5=>simp at ah3 ⊢;omega
   intro v' w6 dC cR _;have bq:(w4.setCell ⟨wr.heap.size,1,none⟩ (.int .i64 y)).grownBy w6 u5.ownBlock:=aC (aQ _ _ _) cR;have L0:=mJ q5;have yD:w.grownBy w6 (some b):=l8 DI bq L0;have lN:Rd w6 b s r4:=aj.kept j9 bq (by intro e;have:=L0 b e.symm;omega);have DJ:gF w6 w.heap.size v' (xs++[⟨x,y⟩]):=by
    have:=dC;unfold gF
    simpa using this
   clear dC cR bq q5 DI j9 L0;go_wp2;go_roundw
   case rel =>
    have e1:=Hs.out;rw[ah2 im.out gY.out] at e1;refine⟨k+1,by omega,by go_num,?_,?_,?_,?_,yD⟩
    ·rw[e1];exact lN
    ·rw[e1];exact mG
    ·rw[e1];exact DJ
    ·rw[e1];intro t' ij
     rcases List.mem_append.1 ij with h' | h'
     ·exact lM t' h'
     ·simp at h';subst h';exact⟨l3,u3,l4,u4⟩
   case measure=>simp[intOf];omega
  ·obtain rfl:k=n:=by omega
   clear Ih;go_wp2;go_ret;exact⟨_,_,_,rfl,lM,oQ,rfl,lL,jw,aF⟩
abbrev aR(af a b we bi to size aE:Int)(same:Bool)(sv:Value)(lo hi aT below left right:Int):Array Value :=
 #[.int .i64 af,.int .i64 a,.int .i64 b,.int .i64 we,.int .i64 bi,.int .i64 to,.int .i64 size,.int .i64 aE,.bool same,sv,.int .i64 lo,.int .i64 hi,.int .i64 aT,.int .i64 below,.int .i64 left,.int .i64 right]
def aO(o:M.Op)(sv:Value):Array Value:=aR o.af o.a o.b o.aP o.bC o.to o.size o.aE o.same sv o.lo o.hi o.aT o.below o.left o.right
structure gO(w w':World)(b L:Nat):Prop where
 os:w'.os=w.os
 tape:w'.tape=w.tape
 output:w'.output=w.output
 size:w.heap.size<=w'.heap.size
 block:∀k,k<w.heap.size->k≠b->k≠L->w'.heap[k]?=w.heap[k]?
theorem gO.refl(w:World)(b L:Nat):gO w w b L:=⟨rfl,rfl,rfl,bj _,fun _ _ _ _=>rfl⟩
theorem gO.trans{w0 w1 w2:World}{b L:Nat}(h:gO w0 w1 b L)(k:gO w1 w2 b L):gO w0 w2 b L :=
 ⟨k.os.trans h.os,k.tape.trans h.tape,k.output.trans h.output,jN h.size k.size,fun i hi h1 h2=>(k.block i (qN hi h.size) h1 h2).trans (h.block i hi h1 h2)⟩
theorem gO.of{w0 w1:World}{b L:Nat}(h:w0.grownBy w1 (some b)):gO w0 w1 b L:=⟨h.os,h.tape,h.output,h.size,fun i hi h1 _=>h.block i hi (by simp[h1])⟩
theorem gO.of0{w0 w1:World}{b L:Nat}(h:w0.grownBy w1 none):gO w0 w1 b L:=⟨h.os,h.tape,h.output,h.size,fun i hi _ _=>h.block i hi (by simp)⟩
theorem gO.set(w:World)(b L i:Nat)(v:Value):gO w (w.setCell ⟨L,i,none⟩ v) b L:=⟨rfl,rfl,rfl,by simp,fun k _ _ h2=>Below.heap_setCell _ _ _ _ (by simpa using h2)⟩
theorem gO.ah5{a w w':World}{b L:Nat}(h:a.grownBy w (some b))(k:gO w w' b L)(hL:a.heap.size<=L):a.grownBy w' (some b) :=
 ⟨k.os.trans h.os,k.tape.trans h.tape,k.output.trans h.output,jN h.size k.size,fun i hi h1=>(k.block i (qN hi h.size) (by intro e;exact h1 (by simp[e])) (by omega)).trans (h.block i hi h1)⟩
structure dD(w0 w1:World)(b L:Nat)(s:ByteArray)(r:M.RS)(cs:Array Value):Prop where
 R:Rd w1 b s r
 B:aj w1 L 142 cs
 g:gO w0 w1 b L
 ne:b≠L
theorem dD.call{w0 w1 w2:World}{b L:Nat}{s:ByteArray}{r r':M.RS}{cs:Array Value}(h:dD w0 w1 b L s r cs)(hR:Rd w2 b s r')(hg:w1.grownBy w2 (some b)):dD w0 w2 b L s r' cs :=
 ⟨hR,h.B.kept hg (by intro e;injection e with e;exact h.ne e.symm),h.g.trans (gO.of hg),h.ne⟩
theorem dD.gZ{w0 w1 w2:World}{b L:Nat}{s:ByteArray}{r:M.RS}{cs:Array Value}(h:dD w0 w1 b L s r cs)(hg:w1.grownBy w2 none):dD w0 w2 b L s r cs :=
 ⟨aj.kept h.R hg (by simp),h.B.kept hg (by simp),h.g.trans (gO.of0 hg),h.ne⟩
theorem dD.put{w0 w1:World}{b L:Nat}{s:ByteArray}{r:M.RS}{cs:Array Value}(h:dD w0 w1 b L s r cs)(i:Nat)(v:Value):dD w0 (w1.setCell ⟨L,i,none⟩ v) b L s r (cs.setIfInBounds i v) :=
 ⟨aj.yz h.R (by simpa using h.ne) _,h.B.set i v,h.g.trans (gO.set _ _ _ _ _),h.ne⟩
theorem dS{w:World}{L T:Nat}{af a b we bi to size aE:Int}{same:Bool}{sv:Value}{lo hi aT below left right:Int}(h:aj w L T (aR af a b we bi to size aE same sv lo hi aT below left right)) :
  w.cell? ⟨L,0,none⟩=some (.int .i64 af)/\w.cell? ⟨L,1,none⟩=some (.int .i64 a)/\w.cell? ⟨L,2,none⟩=some (.int .i64 b)/\w.cell? ⟨L,3,none⟩=some (.int .i64 we)/\w.cell? ⟨L,4,none⟩=some (.int .i64 bi)/\w.cell? ⟨L,5,none⟩=some (.int .i64 to) /\
  w.cell? ⟨L,6,none⟩=some (.int .i64 size)/\w.cell? ⟨L,7,none⟩=some (.int .i64 aE)/\w.cell? ⟨L,8,none⟩=some (.bool same)/\w.cell? ⟨L,9,none⟩=some sv/\w.cell? ⟨L,10,none⟩=some (.int .i64 lo)/\w.cell? ⟨L,11,none⟩=some (.int .i64 hi) /\
  w.cell? ⟨L,12,none⟩=some (.int .i64 aT)/\w.cell? ⟨L,13,none⟩=some (.int .i64 below)/\w.cell? ⟨L,14,none⟩=some (.int .i64 left)/\w.cell? ⟨L,15,none⟩=some (.int .i64 right) :=
 ⟨h.cell 0,h.cell 1,h.cell 2,h.cell 3,h.cell 4,h.cell 5,h.cell 6,h.cell 7,h.cell 8,h.cell 9,h.cell 10,h.cell 11,h.cell 12,h.cell 13,h.cell 14,h.cell 15⟩
structure mb(o:M.Op):Prop where
 af:0<=o.af/\o.af<=10
 a:0<=o.a/\o.a<=255
 b:0<=o.b/\o.b<=255
 aP:0<=o.aP/\o.aP<=255
 bC:0<=o.bC/\o.bC<=255
 to:0<=o.to/\o.to<=255
 size:0<=o.size/\o.size<=255
 aE:0<=o.aE/\o.aE<=255
 lo:-128<=o.lo/\o.lo<=127
 hi:-128<=o.hi/\o.hi<=127
 aT:0<=o.aT/\o.aT<=255
 below:0<=o.below/\o.below<=255
 left:0<=o.left/\o.left<=255
 right:0<=o.right/\o.right<=255
 bM:∀c∈o.bM,qQ c
theorem rI(k:Int)(v1 v2 v3 v4 v5 v6 v7 v8 v9 DK DL BI Ij Ik Il:Value)(x:Bool)(w:World)(hx:M.cm k=x) :
  Calls prog 148 #[.agg #[.int .i64 k,v1,v2,v3,v4,v5,v6,v7,v8,v9,DK,DL,BI,Ij,Ik,Il]] w fun e w'=>e=.returned (.bool x)/\w.grownBy w' none:=by
 subst hx;unfold M.cm;by_cases h1:k=1
 ·subst h1
  go_enter func148,ntmps148;go_wp2;go_ret;exact⟨rfl,aQ _ _ _⟩
 ·have n1:(k==1)=false:=by simp[h1]
  clear h1;by_cases h2:k=2
  ·subst h2
   go_enter func148,ntmps148;go_wp2;go_ret;exact⟨rfl,aQ _ _ _⟩
  ·have n2:(k==2)=false:=by simp[h2]
   clear h2;go_enter func148,ntmps148;go_wp2;go_ret;exact⟨bB (by simp[n1,n2]),aQ _ _ _⟩
theorem L3(k:Int)(v1 v2 v3 v4 v5 v6 v7 v8 v9 DK DL BI Ij Ik Il:Value)(x:Bool)(w:World)(hx:M.dr k=x) :
  Calls prog 149 #[.agg #[.int .i64 k,v1,v2,v3,v4,v5,v6,v7,v8,v9,DK,DL,BI,Ij,Ik,Il]] w fun e w'=>e=.returned (.bool x)/\w.grownBy w' none:=by
 subst hx;unfold M.dr;by_cases h1:k=4
 ·subst h1
  go_enter func149,ntmps149;go_wp2;go_ret;exact⟨rfl,aQ _ _ _⟩
 ·have n1:(k==4)=false:=by simp[h1]
  clear h1;go_enter func149,ntmps149;go_wp2;go_ret;exact⟨bB (by simp[n1]),aQ _ _ _⟩
theorem vA(k:Int)(v1 v2 v3 v4 v5 v6 v7 v8 v9 DK DL BI Ij Ik Il:Value)(x:Bool)(w:World)(hx:(decide (1<=k)&&decide (k<=7))=x) :
  Calls prog 172 #[.agg #[.int .i64 k,v1,v2,v3,v4,v5,v6,v7,v8,v9,DK,DL,BI,Ij,Ik,Il]] w fun e w'=>e=.returned (.bool x)/\w.grownBy w' none:=by
 by_cases h1:k<1
 ·have He:=ae (show x=false by rw[<-hx];simp;omega)
  clear hx;go_enter func172,ntmps172;go_wp2;go_ret;exact⟨bB (by rw[He.out]),aQ _ _ _⟩
 ·by_cases h2:7<k
  ·have He:=ae (show x=false by rw[<-hx];simp;omega)
   clear hx;go_enter func172,ntmps172;go_wp2;go_ret;exact⟨bB (by rw[He.out];simp;omega),aQ _ _ _⟩
  ·have He:=ae (show x=true by rw[<-hx];simp;omega)
   clear hx;go_enter func172,ntmps172;go_wp2;go_ret;exact⟨bB (by rw[He.out]),aQ _ _ _⟩
theorem od{w w':World}{base b:Nat}{v:Value}{xs:List M.Sc}(h:w.ownsRow base 224 2 v xs.length (xs.flatMap DH))(hg:w.grownBy w' (some b))(hb:b<base):w'.ownsRow base 224 2 v xs.length (xs.flatMap DH):=px h hg hb
end Go.Proofs.YtcnhfffgbamonaaGreat
