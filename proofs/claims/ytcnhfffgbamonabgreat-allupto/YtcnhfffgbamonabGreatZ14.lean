import Derived.Test.YtcnhfffgbamonabGreatZ13
set_option maxRecDepth 100000
set_option maxHeartbeats 6400000
namespace Go.Proofs.YtcnhfffgbamonabGreat
open Go.Proofs.Tryz
open Go.RowKit
theorem Ca(m:Nat)(md:M.Md)(n:Int)(w0 w:World)(h:cN w0 m md)(hg:w0.grownBy w none)(_hw:md.au.length<=255) :
  Calls prog 59 #[.pointer (some ⟨m,0,none⟩),.int .i64 n] w fun e w'=>∃t,Hid (M.aq md n=t)/\(∃ao c,e=.returned (.agg #[.int .i64 t.af,.int .i64 t.h,.int .i64 t.w,.int .i64 t.c,.int .i64 t.zero,.slice ao t.data.length c])/\aZ w0 0 (.slice ao t.data.length c) t.data)/\w.grownBy w' none:=by
 obtain⟨a1,c1,a2,c2,a3,c3,hB,hT,hO,hU⟩:=h;have pX:=(hB.kept hg (by simp)).lt;have q0:w.cell? ⟨m,0,none⟩=some (.slice a1 md.au.length c1):=(hB.kept hg (by simp)).cell 0;have HG:=ae hg;clear hB hO hU hg;by_cases hc:n<0\/(md.au.length:Int)<=n
 ·have He:=ae (VW hc)
  clear hT;rcases hc with hc|hc
  ·go_enter func59,ntmps59
   go_wp2;refine bodyPost_ret (v:=.agg (t6 0 0 0 0 0 (.slice none 0 0))) ?hr rfl ?_
   case hr=>exact results_cell_row Tryz.results59 _ _ w.heap.size 106 _ (0,0) _ rfl (aj.bB w 106 _) underlying106 rfl Tryz.iG
   exact⟨M.uY,He,⟨none,0,rfl,aZ.nil _ _⟩,aQ _ _ _⟩
  ·by_cases vc:n<0
   ·omega
   ·go_enter func59,ntmps59
    go_wp2;refine bodyPost_ret (v:=.agg (t6 0 0 0 0 0 (.slice none 0 0))) ?hr rfl ?_
    case hr=>exact results_cell_row Tryz.results59 _ _ w.heap.size 106 _ (0,0) _ rfl (aj.bB w 106 _) underlying106 rfl Tryz.iG
    exact⟨M.uY,He,⟨none,0,rfl,aZ.nil _ _⟩,aQ _ _ _⟩
 ·obtain⟨k,rfl⟩:=fR (show 0<=n by omega)
  have hk:k<md.au.length:=by omega
  obtain⟨t,ht⟩:∃t,md.au[k]?=some t:=⟨_,aT hk⟩;obtain⟨g,ao,m',cp,rfl,-,-,hI,f0,f1,f2,f3,f4,f5⟩:=hT.get k t ht;have d0:=aG HG.out f0;have d1:=aG HG.out f1;have d2:=aG HG.out f2;have d3:=aG HG.out f3;have d4:=aG HG.out f4;have d5:=aG HG.out f5;clear f0 f1 f2 f3 f4 f5;have Fj:=hI.len;subst Fj;have He:=ae (Lw ht);have HI:=ae (hI.mono (bK _));have gN:g<w.heap.size:=pY w _ d0;clear hT ht hc hI;go_enter func59,ntmps59;go_wp2;refine bodyPost_ret (v:=.agg (t6 t.af t.h t.w t.c t.zero (.slice ao t.data.length cp))) ?hr rfl ?_
  case hr=>exact results_cell_row Tryz.results59 _ _ w.heap.size 106 _ (0,0) _ rfl (aj.bB w 106 _) underlying106 rfl Tryz.iG
  exact⟨t,He,⟨ao,cp,rfl,HI.out⟩,aQ _ _ _⟩
theorem Tryz.IE:(prog.info? 122).map (·.size)=some 5:=by kernel_rfl
abbrev g5(h v c z:Int)(dv:Value):Array Value:=#[.int .i64 h,.int .i64 v,.int .i64 c,.int .i64 z,dv]
theorem MI(k h v c z:Int)(dv:Value)(ao:Option Addr)(n cp:Nat)(w:World) :
  Calls prog 100 #[.agg (t6 k h v c z dv),.slice ao n cp] w fun e w'=>e=.returned (.agg (g5 h v c z (.slice ao n cp)))/\w.grownBy w' none:=by
 go_enter func100,ntmps100;go_wp2;refine bodyPost_ret (v:=.agg (g5 h v c z (.slice ao n cp))) ?hr rfl ?_
 case hr=>exact results_cell_row Tryz.results100 _ _ (w.heap.size+1) 122 _ (0,0) _ rfl (aj.yg w _ 122 _) underlying122 rfl Tryz.IE
 exact⟨rfl,nT _ _ _ _⟩
def setMany(cs:Array Value):Nat->List Value->Array Value
 | _,[]=>cs
 | o,v::r=>setMany (cs.setIfInBounds o v) (o+1) r
theorem Xs:∀(vs:List Value) (cs:Array Value) (o:Nat),(setMany cs o vs).size=cs.size
 | [],_,_=>rfl
 | v::r,cs,o=>by rw[setMany,Xs r];simp
theorem aj.many{b:Nat}{t:TypeId}:∀(vs:List Value) {w:World} {cs:Array Value} (o:Nat),aj w b t cs->aj (w.setCells b o vs) b t (setMany cs o vs)
 | [],_,_,_,h=>h
 | v::r,w,cs,o,h=>by rw[World.setCells,setMany];exact aj.many r (o+1) (h.set o v)
theorem MJ(b:Nat):∀(vs:List Value) (w:World) (o:Nat),w.grownBy (w.setCells b o vs) (some b)
 | [],w,_=>gL _ _
 | v::r,w,o=>by rw[World.setCells];exact aC (bD w b o v) (MJ b r _ _)
theorem aj.there{w:World}{b:Nat}{t:TypeId}{cs:Array Value}(h:aj w b t cs)(o n:Nat)(hn:o+n<=cs.size):w.there b o n:=fun j hj=>by
 rw[h.cell,h.free];exact⟨by rw[Array.getElem?_eq_getElem (by omega)];rfl,rfl⟩
abbrev oo(o:M.Op)(sv:Value):Array Value:=aR o.af o.a o.b o.aP o.bA o.to o.size o.aE o.same sv o.lo o.hi o.aS o.below o.left o.right
abbrev vC(o:M.Op)(sv:Value)(a0 a1 a2 a3 a4 b0 b1 b2 b3 b4 w0 w1 w2 w3 w4 i0 i1 i2 i3 i4 m0 m1 m2 m3 m4 m5:Value):Array Value:=
 #[.int .i64 o.af,.int .i64 o.a,.int .i64 o.b,.int .i64 o.aP,.int .i64 o.bA,.int .i64 o.to,.int .i64 o.size,.int .i64 o.aE,.bool o.same,sv,.int .i64 o.lo,.int .i64 o.hi,.int .i64 o.aS,.int .i64 o.below,.int .i64 o.left,.int .i64 o.right,
  a0,a1,a2,a3,a4,b0,b1,b2,b3,b4,w0,w1,w2,w3,w4,i0,i1,i2,i3,i4,m0,m1,m2,m3,m4,m5]
abbrev zi:Value:=.int .i64 0
abbrev zs:Value:=.slice none 0 0
structure SI(w0 w1:World)(o:M.Op)(sv:Value)(cs:Array Value):Prop where
 g:w0.grownBy w1 none
 B:aj w1 w0.heap.size 93 (oo o sv)
 J:aj w1 (w0.heap.size+1) 124 cs
 z:cs.size=42
theorem SI.call{w0 w1 w2:World}{o:M.Op}{sv:Value}{cs:Array Value}(h:SI w0 w1 o sv cs)(hg:w1.grownBy w2 none):SI w0 w2 o sv cs:=
 ⟨aC h.g hg,h.B.kept hg (by simp),h.J.kept hg (by simp),h.z⟩
theorem SI.put{w0 w1:World}{o:M.Op}{sv:Value}{cs:Array Value}(h:SI w0 w1 o sv cs)(q:Nat)(vs:List Value):SI w0 (w1.setCells (w0.heap.size+1) q vs) o sv (setMany cs q vs):=
 ⟨dF h.g (MJ _ vs w1 q) (by omega),h.B.kept (MJ _ vs w1 q) (by simp),h.J.many vs q,by rw[Xs];exact h.z⟩
theorem SI.there{w0 w1:World}{o:M.Op}{sv:Value}{cs:Array Value}(h:SI w0 w1 o sv cs)(q n:Nat)(hn:q+n<=42):w1.there (w0.heap.size+1) q n:=h.J.there q n (by rw[h.z];exact hn)
structure SJ(w0 w1:World)(o:M.Op)(sv:Value)(cs:Array Value)(tb:Nat)(ts:Array Value):Prop where
 I:SI w0 w1 o sv cs
 T:aj w1 tb 106 ts
 lt:w0.heap.size+1<tb
theorem SJ.call{w0 w1 w2:World}{o:M.Op}{sv:Value}{cs:Array Value}{tb:Nat}{ts:Array Value}(h:SJ w0 w1 o sv cs tb ts)(hg:w1.grownBy w2 none):SJ w0 w2 o sv cs tb ts:=
 ⟨h.I.call hg,h.T.kept hg (by simp),h.lt⟩
theorem akA{ag:Array Oper}{rest:List Oper}{op:Oper}{a:Act}{w0 w1:World}{Q:Exit->Act->World->Prop}{o:M.Op}{sv:Value}{cs:Array Value}(I:SI w0 w1 o sv cs)(eH:op.guard=none)(ty:TypeId)(x y:Operand)(ho:op.op=.store ty x y)
  (q:Nat) (cells:Array Value) (hx:a.eval x=.pointer (some ⟨w0.heap.size+1,q,none⟩)) (hy:a.eval y=.agg cells) (hq:q+cells.size<=42)
  (hi:(prog.info? ty).map (·.size)=some cells.size) (h1:cells.all (·.oneCell')=true)
  (h:∀w2,SI w0 w2 o sv (setMany cs q cells.toList)->wpList prog ag Q rest (a.put op.dst undef) w2):wpList prog ag Q (op::rest) a w1:=
 wpList_store_mid eH ty x y ho (w0.heap.size+1) q cells hx hy (I.there q cells.size hq) hi h1 (h _ (I.put q cells.toList))
theorem MK{ag:Array Oper}{rest:List Oper}{op:Oper}{a:Act}{w0 w1:World}{Q:Exit->Act->World->Prop}{o:M.Op}{sv:Value}{cs:Array Value}{tb:Nat}{ts:Array Value}(I:SJ w0 w1 o sv cs tb ts)(eH:op.guard=none)(ty:TypeId)(x y:Operand)(ho:op.op=.store ty x y)
  (q:Nat) (cells:Array Value) (hx:a.eval x=.pointer (some ⟨w0.heap.size+1,q,none⟩)) (hy:a.eval y=.agg cells) (hq:q+cells.size<=42)
  (hi:(prog.info? ty).map (·.size)=some cells.size) (h1:cells.all (·.oneCell')=true)
  (h:∀w2,SJ w0 w2 o sv (setMany cs q cells.toList) tb ts->wpList prog ag Q rest (a.put op.dst undef) w2):wpList prog ag Q (op::rest) a w1:=
 wpList_store_mid eH ty x y ho (w0.heap.size+1) q cells hx hy (I.I.there q cells.size hq) hi h1 (h _ ⟨I.I.put q cells.toList,I.T.kept (MJ _ cells.toList w1 q) (by have:=I.lt;simp;omega),I.lt⟩)
theorem QZ{w:World}{b:Nat}{t:TypeId}{cs:Array Value}(h:aj w b t cs)(vs:Array Value):aj (w.setRow b vs) b t vs:=by
 exact setRow_heap _ _ _ _ _ _ h
theorem ML{ag:Array Oper}{rest:List Oper}{op:Oper}{a:Act}{w0 w1:World}{Q:Exit->Act->World->Prop}{o:M.Op}{sv:Value}{cs:Array Value}{tb:Nat}{ts:Array Value}(I:SJ w0 w1 o sv cs tb ts)(eH:op.guard=none)(x y:Operand)(ho:op.op=.store 106 x y)
  (cells:Array Value) (hx:a.eval x=.pointer (some ⟨tb,0,none⟩)) (hy:a.eval y=.agg cells) (hz:ts.size=cells.size)
  (hi:(prog.info? 106).map (·.size)=some cells.size) (h1:cells.all (·.oneCell')=true)
  (h:∀w2,SJ w0 w2 o sv cs tb cells->wpList prog ag Q rest (a.put op.dst undef) w2):wpList prog ag Q (op::rest) a w1:=
 aaY eH 106 x y ho tb cells hx hy 106 ts I.T hi hz h1 (h _ ⟨⟨dF I.I.g (vb w1 tb cells) (by have:=I.lt;omega),I.I.B.kept (vb w1 tb cells) (by have:=I.lt;simp;omega),I.I.J.kept (vb w1 tb cells) (by have:=I.lt;simp;omega),I.I.z⟩,QZ I.T cells,I.lt⟩)
theorem MM(h v c z:Int)(ao:Option Addr)(m cp:Nat):(g5 h v c z (.slice ao m cp)).all (·.oneCell')=true:=by
 simp[Value.oneCell']
theorem akB(o:M.Op)(sv a0 a1 a2 a3 a4 b0 b1 b2 b3 b4 w0 w1 w2 w3 w4 i0 i1 i2 i3 i4 m0 m1 m2 m3 m4 m5 x0 x1 x2 x3 x4 x5:Value) :
  setMany (vC o sv a0 a1 a2 a3 a4 b0 b1 b2 b3 b4 w0 w1 w2 w3 w4 i0 i1 i2 i3 i4 m0 m1 m2 m3 m4 m5) 36 #[x0,x1,x2,x3,x4,x5].toList=vC o sv a0 a1 a2 a3 a4 b0 b1 b2 b3 b4 w0 w1 w2 w3 w4 i0 i1 i2 i3 i4 x0 x1 x2 x3 x4 x5:=by kernel_rfl
theorem akC(o:M.Op)(sv a0 a1 a2 a3 a4 b0 b1 b2 b3 b4 w0 w1 w2 w3 w4 i0 i1 i2 i3 i4 m0 m1 m2 m3 m4 m5 x0 x1 x2 x3 x4:Value) :
  setMany (vC o sv a0 a1 a2 a3 a4 b0 b1 b2 b3 b4 w0 w1 w2 w3 w4 i0 i1 i2 i3 i4 m0 m1 m2 m3 m4 m5) 16 #[x0,x1,x2,x3,x4].toList=vC o sv x0 x1 x2 x3 x4 b0 b1 b2 b3 b4 w0 w1 w2 w3 w4 i0 i1 i2 i3 i4 m0 m1 m2 m3 m4 m5:=by kernel_rfl
theorem akD(o:M.Op)(sv a0 a1 a2 a3 a4 b0 b1 b2 b3 b4 w0 w1 w2 w3 w4 i0 i1 i2 i3 i4 m0 m1 m2 m3 m4 m5 x0 x1 x2 x3 x4:Value) :
  setMany (vC o sv a0 a1 a2 a3 a4 b0 b1 b2 b3 b4 w0 w1 w2 w3 w4 i0 i1 i2 i3 i4 m0 m1 m2 m3 m4 m5) 21 #[x0,x1,x2,x3,x4].toList=vC o sv a0 a1 a2 a3 a4 x0 x1 x2 x3 x4 w0 w1 w2 w3 w4 i0 i1 i2 i3 i4 m0 m1 m2 m3 m4 m5:=by kernel_rfl
theorem akE(o:M.Op)(sv a0 a1 a2 a3 a4 b0 b1 b2 b3 b4 w0 w1 w2 w3 w4 i0 i1 i2 i3 i4 m0 m1 m2 m3 m4 m5 x0 x1 x2 x3 x4:Value) :
  setMany (vC o sv a0 a1 a2 a3 a4 b0 b1 b2 b3 b4 w0 w1 w2 w3 w4 i0 i1 i2 i3 i4 m0 m1 m2 m3 m4 m5) 26 #[x0,x1,x2,x3,x4].toList=vC o sv a0 a1 a2 a3 a4 b0 b1 b2 b3 b4 x0 x1 x2 x3 x4 i0 i1 i2 i3 i4 m0 m1 m2 m3 m4 m5:=by kernel_rfl
theorem akF(o:M.Op)(sv a0 a1 a2 a3 a4 b0 b1 b2 b3 b4 w0 w1 w2 w3 w4 i0 i1 i2 i3 i4 m0 m1 m2 m3 m4 m5 x0 x1 x2 x3 x4:Value) :
  setMany (vC o sv a0 a1 a2 a3 a4 b0 b1 b2 b3 b4 w0 w1 w2 w3 w4 i0 i1 i2 i3 i4 m0 m1 m2 m3 m4 m5) 31 #[x0,x1,x2,x3,x4].toList=vC o sv a0 a1 a2 a3 a4 b0 b1 b2 b3 b4 w0 w1 w2 w3 w4 x0 x1 x2 x3 x4 m0 m1 m2 m3 m4 m5:=by kernel_rfl
abbrev akG(o:M.Op)(sv:Value)(a:O.G)(av:Value)(b:O.G)(bv:Value)(u:O.G)(uv:Value)(i:O.G)(iv:Value)(z:M.Tn)(zv:Value):Array Value:=
 vC o sv (.int .i64 a.h) (.int .i64 a.w) (.int .i64 a.c) (.int .i64 a.zero) av (.int .i64 b.h) (.int .i64 b.w) (.int .i64 b.c) (.int .i64 b.zero) bv (.int .i64 u.h) (.int .i64 u.w) (.int .i64 u.c) (.int .i64 u.zero) uv (.int .i64 i.h) (.int .i64 i.w) (.int .i64 i.c) (.int .i64 i.zero) iv
  (.int .i64 z.af) (.int .i64 z.h) (.int .i64 z.w) (.int .i64 z.c) (.int .i64 z.zero) zv
theorem Q3{w:World}{g:Nat}{j:O.J}{A:JA}{az:Option Addr}{nz cz:Nat}
  (hJ:aj w g 124 (akG j.op (.slice A.sa j.op.bM.length A.sc) j.a (.slice A.aa j.a.cells.length A.ac) j.b (.slice A.ba j.b.cells.length A.bc) j.aP (.slice A.wa j.aP.cells.length A.wc) j.bA (.slice A.ia j.bA.cells.length A.ic) j.dM (.slice az nz cz)))
  (hs:gy w 0 (.slice A.sa j.op.bM.length A.sc) j.op.bM) (ha:kC w (.slice A.aa j.a.cells.length A.ac) j.a.cells) (hb:kC w (.slice A.ba j.b.cells.length A.bc) j.b.cells)
  (hw:kC w (.slice A.wa j.aP.cells.length A.wc) j.aP.cells) (hi:kC w (.slice A.ia j.bA.cells.length A.ic) j.bA.cells):Jm w g j A:=
 ⟨hJ.cell 0,hJ.cell 6,hJ.cell 7,hJ.cell 9,hJ.cell 10,hJ.cell 11,hJ.cell 12,hJ.cell 14,⟨hJ.cell 16,hJ.cell 17,hJ.cell 18,hJ.cell 19,hJ.cell 20,ha⟩,⟨hJ.cell 21,hJ.cell 22,hJ.cell 23,hJ.cell 24,hJ.cell 25,hb⟩,
  ⟨hJ.cell 26,hJ.cell 27,hJ.cell 28,hJ.cell 29,hJ.cell 30,hw⟩,⟨hJ.cell 31,hJ.cell 32,hJ.cell 33,hJ.cell 34,hJ.cell 35,hi⟩,hJ.cell 36,⟨az,nz,cz,hJ.cell 41⟩,hJ.cell 37,hJ.cell 38,hJ.cell 39,hJ.cell 40,hs⟩
theorem akH(m:Nat)(md:M.Md)(o:M.Op)(so:Option Addr)(sn sc:Nat)(a:Option Addr)(an ac:Nat)(la:List Int)(b:Option Addr)(bn bc:Nat)(lb:List Int)(w:World)(hM:cN w m md)(hn:md.au.length<=255)
  (hS:gy w 0 (.slice so sn sc) o.bM) (hA:kC w (.slice a an ac) la) (hB:kC w (.slice b bn bc) lb) :
  Calls prog 66 #[.pointer (some ⟨m,0,none⟩),.agg (oo o (.slice so sn sc)),.slice a an ac,.slice b bn bc] w fun e w'=>∃g A,e=.returned (.pointer (some ⟨g,0,none⟩))/\w.heap.size<=g/\Jm w' g (O.start md o la lb) A/\w.grownBy w' none:=by
 obtain rfl:=hS.len;obtain rfl:=hA.len;obtain rfl:=hB.len;have N0:=ae (aj.bB w 93 (oo o (.slice so o.bM.length sc)));have HM:=ae hM;have HS:=ae hS;have HA:=ae hA;have HB:=ae hB;clear hM hS hA hB;have I0:SI w ((w.alloc (.cells (oo o (.slice so o.bM.length sc)) 93)).alloc (.cells (vC o (.slice so o.bM.length sc) zi zi zi zi zs zi zi zi zi zs zi zi zi zi zs zi zi zi zi zs zi zi zi zi zi zs) 124)) o (.slice so o.bM.length sc) _:=
  ⟨nT _ _ _ _,(aj.bB w _ _).alloc _,aj.yg _ _ _ _,rfl⟩
 go_enter func66,ntmps66;go_wp2_with (refine dj rfl 93 _ rfl w.heap.size rfl 93 (oo o (.slice so o.bM.length sc)) (0,0) _ N0.out underlying93 rfl Tryz.db ?_);refine(Ca m md o.to w _ HM.out I0.g hn).mono ?_;rintro e w1⟨tz,Q4,⟨az,cz,rfl,hIz⟩,aH⟩;have kP:=ae (I0.call aH);clear I0 aH N0 hIz;go_wp2_with (refine akA kP.out rfl 106 _ _ rfl 36 (t6 tz.af tz.h tz.w tz.c tz.zero (.slice az tz.data.length cz)) rfl rfl (show 36+6<=42 by decide) Tryz.iG (GY _ _ _ _ _ _ _ _) ?_;intro w2 I2;rw[akB] at I2;have jE:=ae I2;have c1:w2.cell? ⟨w.heap.size,1,none⟩=some (.int .i64 o.a):=I2.B.cell 1;have jm:=I2.J.lt;clear I2);refine(Ca m md o.a w _ HM.out jE.out.g hn).mono ?_;rintro e w3⟨ta,DP,⟨aa,ca,rfl,MN⟩,aU⟩;have Dq:=(jE.out.call aU).J.lt;have mi:=ae (jE.out.call aU);clear kP jE aU MN c1 jm;go_wp2_with (first
  | (refine ML (SJ.mk (mi.out.call (aQ _ _ _)) (aj.bB _ _ _) (by omega)) rfl _ _ rfl (t6 ta.af ta.h ta.w ta.c ta.zero (.slice aa ta.data.length ca)) rfl rfl rfl Tryz.iG (GY _ _ _ _ _ _ _ _) ?_;intro w4 I4;have kl:=ae I4;have DQ:=I4.T.lt;clear I4 mi)
  | (refine dj rfl 106 _ rfl w3.heap.size rfl 106 (t6 ta.af ta.h ta.w ta.c ta.zero (.slice aa ta.data.length ca)) (0,0) _ kl.out.T underlying106 rfl Tryz.iG ?_))
 refine(MI ta.af ta.h ta.w ta.c ta.zero (.slice aa ta.data.length ca) a la.length ac _).mono ?_;rintro e w5⟨rfl,cJ⟩;have H5:=ae (kl.out.call cJ);clear cJ kl Dq DQ;go_wp2_with (first
  | (refine MK H5.out rfl 122 _ _ rfl 16 (g5 ta.h ta.w ta.c ta.zero (.slice a la.length ac)) rfl rfl (show 16+5<=42 by decide) Tryz.IE (MM _ _ _ _ _ _ _) ?_;intro w6 I6;rw[akC] at I6;have H6:=ae I6;clear I6 H5)
  | (refine dj rfl 93 _ rfl w.heap.size rfl 93 (oo o (.slice so o.bM.length sc)) (0,0) _ H6.out.I.B underlying93 rfl Tryz.db ?_))
 cases h2:M.dr o.af with
 | true=>
  have Hw:M.cm o.af=false:=by
   cases h:M.cm o.af with
   | true=>rw[VK h] at h2;exact Bool.noConfusion h2
   | false=>rfl
  have HE:=ae (show O.start md o la lb=⟨o,O.eZ ta la,O.eZ (M.aq md o.b) lb,O.xi,O.xi,tz⟩ by
   unfold O.start;rw[ay h2,ak (by rw[Hw];decide),ak (by rw[Hw];decide),Q4.out,DP.out])
  have HW:=ae Hw;refine(Bz o (.slice so o.bM.length sc) true _ h2).mono ?_;rintro e w7⟨rfl,dJ⟩;have H7:=ae (H6.out.call dJ);have c2:w7.cell? ⟨w.heap.size,2,none⟩=some (.int .i64 o.b):=H7.out.I.B.cell 2;clear dJ H6 h2 Hw;go_wp2_with fail;refine(Ca m md o.b w _ HM.out H7.out.I.g hn).mono ?_;rintro e w8⟨tb,Htb,⟨ab,cb,rfl,MO⟩,oU⟩;have H8:=ae (H7.out.call oU);clear oU H7 MO c2;go_wp2_with (first
  | (refine ML H8.out rfl _ _ rfl (t6 tb.af tb.h tb.w tb.c tb.zero (.slice ab tb.data.length cb)) rfl rfl rfl Tryz.iG (GY _ _ _ _ _ _ _ _) ?_;intro w9 Cb;have DR:=ae Cb;have Q6:=Cb.T.lt;clear Cb H8)
  | (refine dj rfl 106 _ rfl w3.heap.size rfl 106 (t6 tb.af tb.h tb.w tb.c tb.zero (.slice ab tb.data.length cb)) (0,0) _ DR.out.T underlying106 rfl Tryz.iG ?_))
  refine(MI tb.af tb.h tb.w tb.c tb.zero (.slice ab tb.data.length cb) b lb.length bc _).mono ?_;rintro e LK⟨rfl,zU⟩;have IF:=ae (DR.out.call zU);clear zU DR Q6;go_wp2_with (first
   | (refine MK IF.out rfl 122 _ _ rfl 21 (g5 tb.h tb.w tb.c tb.zero (.slice b lb.length bc)) rfl rfl (show 21+5<=42 by decide) Tryz.IE (MM _ _ _ _ _ _ _) ?_;intro Q7 Cd;rw[akD] at Cd;have DS:=ae Cd;clear Cd IF)
   | (refine dj rfl 93 _ rfl w.heap.size rfl 93 (oo o (.slice so o.bM.length sc)) (0,0) _ DS.out.I.B underlying93 rfl Tryz.db ?_))
  refine(yo o (.slice so o.bM.length sc) false _ HW.out).mono ?_;rintro e Q8⟨rfl,Ce⟩;have rK:=ae (DS.out.call Ce);clear Ce DS;go_wp2;go_ret;refine⟨_,⟨so,sc,a,ac,b,bc,none,0,none,0⟩,rfl,by omega,?_,rK.out.I.g⟩;rw[HE.out,Htb.out];exact Q3 rK.out.I.J (eW HS.out rK.out.I.g) (HA.out.Z rK.out.I.g) (HB.out.Z rK.out.I.g) (kC.nil _) (kC.nil _)
 | false=>
  refine(Bz o (.slice so o.bM.length sc) false _ h2).mono ?_;rintro e w7⟨rfl,dJ⟩;have H7:=ae (H6.out.call dJ);clear dJ H6;have H2:=ae h2;clear h2;go_wp2_with (refine dj rfl 93 _ rfl w.heap.size rfl 93 (oo o (.slice so o.bM.length sc)) (0,0) _ H7.out.I.B underlying93 rfl Tryz.db ?_)
  cases hw:M.cm o.af with
  | false=>
   have HE:=ae (show O.start md o la lb=⟨o,O.eZ ta la,O.xi,O.xi,O.xi,tz⟩ by
    unfold O.start;rw[ak (by rw[H2.out];decide),ak (by rw[hw];decide),ak (by rw[hw];decide),Q4.out,DP.out])
   refine(yo o (.slice so o.bM.length sc) false _ hw).mono ?_;rintro e Q8⟨rfl,Ce⟩;have rK:=ae (H7.out.call Ce);clear Ce H7 hw;go_wp2;go_ret;refine⟨_,⟨so,sc,a,ac,none,0,none,0,none,0⟩,rfl,by omega,?_,rK.out.I.g⟩;rw[HE.out];exact Q3 rK.out.I.J (eW HS.out rK.out.I.g) (HA.out.Z rK.out.I.g) (kC.nil _) (kC.nil _) (kC.nil _)
  | true=>
   have HE:=ae (show O.start md o la lb=⟨o,O.eZ ta la,O.xi,O.eZ (M.aq md o.aP) (M.aq md o.aP).data,O.eZ (M.aq md o.bA) (M.aq md o.bA).data,tz⟩ by
    unfold O.start;rw[ak (by rw[H2.out];decide),ay hw,ay hw,Q4.out,DP.out])
   refine(yo o (.slice so o.bM.length sc) true _ hw).mono ?_;rintro e Q8⟨rfl,Ce⟩;have rK:=ae (H7.out.call Ce);have c3:Q8.cell? ⟨w.heap.size,3,none⟩=some (.int .i64 o.aP):=rK.out.I.B.cell 3;clear Ce H7 hw;go_wp2_with fail;refine(Ca m md o.aP w _ HM.out rK.out.I.g hn).mono ?_;rintro e w8⟨tw,MP,⟨aw,cw,rfl,Xt⟩,oU⟩;have H8:=ae (rK.out.call oU);have HIw:=ae Xt;clear oU rK Xt c3;go_wp2_with (first
    | (refine ML H8.out rfl _ _ rfl (t6 tw.af tw.h tw.w tw.c tw.zero (.slice aw tw.data.length cw)) rfl rfl rfl Tryz.iG (GY _ _ _ _ _ _ _ _) ?_;intro w9 Cb;have DR:=ae Cb;have Q6:=Cb.T.lt;have cd:w9.cell? ⟨w3.heap.size,5,none⟩=some (.slice aw tw.data.length cw):=Cb.T.cell 5;clear Cb H8)
    | (refine dj rfl 106 _ rfl w3.heap.size rfl 106 (t6 tw.af tw.h tw.w tw.c tw.zero (.slice aw tw.data.length cw)) (0,0) _ DR.out.T underlying106 rfl Tryz.iG ?_))
   refine(MI tw.af tw.h tw.w tw.c tw.zero (.slice aw tw.data.length cw) aw tw.data.length cw _).mono ?_;rintro e LK⟨rfl,zU⟩;have IF:=ae (DR.out.call zU);clear zU DR Q6 cd;go_wp2_with (first
    | (refine MK IF.out rfl 122 _ _ rfl 26 (g5 tw.h tw.w tw.c tw.zero (.slice aw tw.data.length cw)) rfl rfl (show 26+5<=42 by decide) Tryz.IE (MM _ _ _ _ _ _ _) ?_;intro Q7 Cd;rw[akE] at Cd;have DS:=ae Cd;have c4:Q7.cell? ⟨w.heap.size,4,none⟩=some (.int .i64 o.bA):=Cd.I.B.cell 4;clear Cd IF))
   refine(Ca m md o.bA w _ HM.out DS.out.I.g hn).mono ?_;rintro e w13⟨ti,Hti,⟨ai,ci,rfl,IG⟩,Xu⟩;have Xv:=ae (DS.out.call Xu);have IH:=ae IG;clear Xu DS IG c4;go_wp2_with (first
    | (refine ML Xv.out rfl _ _ rfl (t6 ti.af ti.h ti.w ti.c ti.zero (.slice ai ti.data.length ci)) rfl rfl rfl Tryz.iG (GY _ _ _ _ _ _ _ _) ?_;intro w14 MQ;have Q9:=ae MQ;have akN:=MQ.T.lt;have cd:w14.cell? ⟨w3.heap.size,5,none⟩=some (.slice ai ti.data.length ci):=MQ.T.cell 5;clear MQ Xv)
    | (refine dj rfl 106 _ rfl w3.heap.size rfl 106 (t6 ti.af ti.h ti.w ti.c ti.zero (.slice ai ti.data.length ci)) (0,0) _ Q9.out.T underlying106 rfl Tryz.iG ?_))
   refine(MI ti.af ti.h ti.w ti.c ti.zero (.slice ai ti.data.length ci) ai ti.data.length ci _).mono ?_;rintro e w15⟨rfl,Xw⟩;have Xx:=ae (Q9.out.call Xw);clear Xw Q9 akN cd;go_wp2_with (first
    | (refine MK Xx.out rfl 122 _ _ rfl 31 (g5 ti.h ti.w ti.c ti.zero (.slice ai ti.data.length ci)) rfl rfl (show 31+5<=42 by decide) Tryz.IE (MM _ _ _ _ _ _ _) ?_;intro w16 Rb;rw[akF] at Rb;have Fk:=ae Rb;clear Rb Xx))
   go_ret;refine⟨_,⟨so,sc,a,ac,none,0,aw,cw,ai,ci⟩,rfl,by omega,?_,Fk.out.I.g⟩;rw[HE.out,MP.out,Hti.out];exact Q3 Fk.out.I.J (eW HS.out Fk.out.I.g) (HA.out.Z Fk.out.I.g) (kC.nil _) (HIw.out.Z Fk.out.I.g).row (IH.out.Z Fk.out.I.g).row
theorem II(t:M.Tn)(f:Int->Int->Int->Int)(n:Nat):(O.qJ t f n).length=n:=by unfold O.qJ;simp
theorem Xy(t:M.Tn)(f:Int->Int->Int->Int):O.qJ t f (M.cellsOf t).toNat=D.pZ t f:=rfl
theorem Xz{t:M.Tn}{f:Int->Int->Int->Int}{W C y x k q:Nat}(hW:t.w=W)(hC:t.c=C)(hx:x<W)(hk:k<C)(hq:q=(y*W+x)*C+k):O.qJ t f (q+1)=O.qJ t f q++[f y x k]:=by
 unfold O.qJ;rw[List.range_succ,lH,List.map_singleton,hW,hC];have e1:q/C=y*W+x:=by
  rw[hq,Nat.add_comm,Nat.add_mul_div_right _ _ (by omega),Nat.div_eq_of_lt hk];omega
 have e2:q%C=k:=by rw[hq,Nat.add_comm,Nat.add_mul_mod_self_right,Nat.mod_eq_of_lt hk]
 have e3:q/(W*C)=y:=by
  rw[Nat.mul_comm,<-Nat.div_div_eq_div_mul,e1,Nat.add_comm,Nat.add_mul_div_right _ _ (by omega),Nat.div_eq_of_lt hx];omega
 have e4:q/C%W=x:=by rw[e1,Nat.add_comm,Nat.add_mul_mod_self_right,Nat.mod_eq_of_lt hx]
 have f1:(q:Int)/((W:Int)*C)=y:=by rw[<-Int.natCast_mul,<-Int.natCast_ediv,e3]
 have f2:(q:Int)/(C:Int)%(W:Int)=x:=by rw[<-Int.natCast_ediv,<-Int.natCast_emod,e4]
 have f3:(q:Int)%(C:Int)=k:=by rw[<-Int.natCast_emod,e2]
 rw[f1,f2,f3]
theorem XA{H W C y x k:Nat}(hy:y<H)(hx:x<W)(hk:k<C):(y*W+x)*C+k<H*W*C:=by
 have h1:(y+1)*W<=H*W:=Nat.mul_le_mul_right _ (by omega);rw[Nat.add_mul,Nat.one_mul] at h1;have h2:(y*W+x+1)*C<=H*W*C:=Nat.mul_le_mul_right _ (by omega);rw[Nat.add_mul,Nat.one_mul] at h2;omega
theorem XB(m:Nat)(md:M.Md)(o:M.Op)(so:Option Addr)(sn sc:Nat)(a:Option Addr)(an ac:Nat)(la:List Int)(b:Option Addr)(bn bc:Nat)(lb:List Int)(w:World)(hM:cN w m md)(hn:md.au.length<=255)
  (hS:gy w 0 (.slice so sn sc) o.bM) (hA:kC w (.slice a an ac) la) (hB:kC w (.slice b bn bc) lb) (F:O.jN md o la lb) :
  Calls prog 38 #[.pointer (some ⟨m,0,none⟩),.agg (aO o (.slice so sn sc)),.slice a an ac,.slice b bn bc] w fun e w'=>(∃g c,e=.returned (.slice (some ⟨g,0,none⟩) (O.iu md o la lb).length c)/\aZ w' w.heap.size (.slice (some ⟨g,0,none⟩) (O.iu md o la lb).length c) (O.iu md o la lb))/\w.grownBy w' none:=by
 obtain⟨i0,hi,cQ,cR,cZ⟩:=info_parts Tryz.oH;have N0:=ae (aj.bB w 93 (oo o (.slice so sn sc)));have G0:=aQ w (.cells (oo o (.slice so sn sc)) 93) none;have HC:=ae (akH m md o so sn sc a an ac la b bn bc lb _ (hM.Z G0) hn (eW hS G0) (hA.Z G0) (hB.Z G0));have jq:=ae F.ok;have BB:=ae (akp F);have Hz:=ae F.z;have HE:=ae (show O.iu md o la lb=D.pZ (M.aq md o.to) (O.cell (O.start md o la lb)) from rfl);show Calls prog 38 #[.pointer (some ⟨m,0,none⟩),.agg (oo o (.slice so sn sc)),.slice a an ac,.slice b bn bc] w _;clear hM hS hA hB F;go_enter func38,ntmps38;go_wp2_with (refine dj rfl 93 _ rfl w.heap.size rfl 93 (oo o (.slice so sn sc)) (0,0) _ N0.out underlying93 rfl Tryz.db ?_);refine HC.out.mono ?_;rintro e w1⟨g,A,rfl,hg,hJ,aH⟩;have G1:=ae (aC G0 aH);have HJ:=ae hJ;clear N0 HC G0 aH hJ;obtain⟨da,dn,dc,hd⟩:=HJ.out.mv;generalize hj:O.start md o la lb=j at *;have hz:j.dM=M.aq md o.to:=by rw[<-hj];rfl
 rw[<-hz] at Hz HE;have HZ:=ae hz;clear hz hj;have e0:=HJ.out.Xn;have e1:=HJ.out.mh;have e2:=HJ.out.mw;have e3:=HJ.out.mc;have e4:=HJ.out.mz;go_wp2_with fail;refine(Lm j.dM.af j.dM.h j.dM.w j.dM.c j.dM.zero (.slice da dn dc) _ (by have:=Hz.out.h0;omega) Hz.out.h1 (by have:=Hz.out.w0;omega) Hz.out.w1 (by have:=Hz.out.c0;omega) Hz.out.c1).mono ?_;rintro e w2⟨rfl,aM⟩;have xo:=ae (HJ.out.kept aM);have G2:=ae (aC G1.out aM);have DU:=G2.out.size;obtain⟨H,hH⟩:∃H:Nat,j.dM.h=H:=⟨j.dM.h.toNat,(uc (by have:=Hz.out.h0;omega)).symm⟩;obtain⟨W,hW⟩:∃W:Nat,j.dM.w=W:=⟨j.dM.w.toNat,(uc (by have:=Hz.out.w0;omega)).symm⟩;obtain⟨C,hC⟩:∃C:Nat,j.dM.c=C:=⟨j.dM.c.toNat,(uc (by have:=Hz.out.c0;omega)).symm⟩;have H1:H<=255:=by have:=Hz.out.h1;omega
 have W1:W<=255:=by have:=Hz.out.w1;omega
 have C1:C<=255:=by have:=Hz.out.c1;omega
 obtain⟨N,hN⟩:∃N:Nat,N=H*W*C:=⟨_,rfl⟩;have eN:j.dM.h*j.dM.w*j.dM.c=(N:Int):=by rw[hH,hW,hC,hN,Int.natCast_mul,Int.natCast_mul]
 have N1:N<=512:=by have:=Hz.out.me;unfold M.cellsOf at this;omega
 have MR:=ae hN;have HHH:=ae hH;have XC:=ae hW;have XD:=ae hC;have HF:=ae (show O.qJ j.dM (O.cell j) N=O.iu md o la lb by
  rw[HE.out,<-Xy];congr 1;unfold M.cellsOf;omega)
 rw[eN];clear aM HJ G1 e0 e1 e2 e3 e4 hd hN eN hH hW hC HE;go_wp2_with (at_make;refine wpList_make_own _ rfl _ _ 32 rfl w2.heap.size 3 i0 (.int .i64 0) 1 underlying32 hi cQ cR _ _ _ N rfl rfl rfl ?c1 ?c2 ?c3 ?_)
 case c1=>rw[cZ];omega
 case c2=>unfold maxLen;omega
 case c3=>exact bj _
 intro w3 cB aU;have kY:aZ w3 w2.heap.size (.slice (some ⟨w2.heap.size,0,none⟩) 0 N) []:=cB;have Dq:=aU.size;clear cB;go_wp2;go_loopw[11,12] (fun v i wr=>∃y q:Nat,y<=H/\Hid (q=y*W*C)/\i=.int .i64 y/\v=.slice (some ⟨w2.heap.size,0,none⟩) q N/\aZ wr w2.heap.size (.slice (some ⟨w2.heap.size,0,none⟩) q N) (O.qJ j.dM (O.cell j) q)/\w2.grownBy wr none) (fun _ i _=>H-(intOf i).toNat)
 case atStart=>exact⟨0,0,bK _,(by simp[Hid]),rfl,rfl,kY,aU⟩
 case round=>
  obtain⟨y,q,hy,Hq,rfl,rfl,vD,ji⟩:=hrel;have e1:=(xo.out.kept ji).mh;rw[HHH.out] at e1;by_cases aK:y<H
  ·go_wp2
   go_loopw[11,13] (fun v i wr=>∃x q:Nat,x<=W/\Hid (q=(y*W+x)*C)/\i=.int .i64 x/\v=.slice (some ⟨w2.heap.size,0,none⟩) q N/\aZ wr w2.heap.size (.slice (some ⟨w2.heap.size,0,none⟩) q N) (O.qJ j.dM (O.cell j) q)/\w2.grownBy wr none) (fun _ i _=>W-(intOf i).toNat)
   case atStart=>exact⟨0,q,bK _,Hq.out,rfl,rfl,vD,ji⟩
   case round=>
    clear vD ji Hq e1;obtain⟨x,q,hx,Hq,rfl,rfl,vD,ji⟩:=hrel;have e2:=(xo.out.kept ji).mw;rw[XC.out] at e2;by_cases kZ:x<W
    ·go_wp2
     go_loopw[11,14] (fun v i wr=>∃k q:Nat,k<=C/\Hid (q=(y*W+x)*C+k)/\i=.int .i64 k/\v=.slice (some ⟨w2.heap.size,0,none⟩) q N/\aZ wr w2.heap.size (.slice (some ⟨w2.heap.size,0,none⟩) q N) (O.qJ j.dM (O.cell j) q)/\w2.grownBy wr none) (fun _ i _=>C-(intOf i).toNat)
     case atStart=>exact⟨0,q,bK _,Hq.out,rfl,rfl,vD,ji⟩
     case round=>
      clear vD ji Hq e2;obtain⟨k,q,hk,Hq,rfl,rfl,vD,ji⟩:=hrel;have e3:=(xo.out.kept ji).mc;rw[XD.out] at e3;by_cases rz:k<C
      ·have XE:q<N:=by rw[Hq.out,MR.out];exact XA aK kZ rz
       have fg:=ae (Xz (f:=O.cell j) XC.out XD.out kZ rz Hq.out);go_wp2_with fail;refine(akz g j A y x k _ (xo.out.kept ji) jq.out BB.out (by omega) (by omega) (by omega) (by omega) (by omega) (by omega)).mono ?_;rintro e w4⟨rfl,bm⟩;have lO:=vD.Z bm;have Rc:=aC ji bm;have DQ:=Rc.size;clear vD ji bm e3;generalize O.cell j y x k=c at *;go_wp2_with (at_builtin;refine wpList_append_fits _ rfl _ _ 32 rfl w2.heap.size 3 i0 1 underlying32 hi cR w2.heap.size q N _ rfl (lP (by have e:=lO;unfold aZ at e;rw[II] at e;exact e) _) ⟨w4.heap.size,0,none⟩ 1 1 [.int .i64 c] rfl rfl ?c1 ?c2 ?c3 ?_)
       case c1=>exact kb w4 3 #[.int .i64 c]
       case c2=>intro u hu;simp at hu;subst hu;rfl
       case c3=>omega
       intro w5 IJ cJ;have rL:Hid (aZ w5 w2.heap.size (.slice (some ⟨w2.heap.size,0,none⟩) (q+1) N) (O.qJ j.dM (O.cell j) (q+1))):=by
        rw[fg.out];unfold Hid aZ;rw[nC,II,lH];exact IJ
       have iC:=ae (dF (aC Rc (aQ _ _ _)) cJ (bj _));clear IJ cJ lO Rc;go_wp2;go_roundw
       case rel=>exact⟨k+1,q+1,by omega,(by have:=Hq.out;unfold Hid;omega),by go_num,rfl,rL.out,iC.out⟩
       case measure=>simp[intOf];omega
      ·obtain rfl:k=C:=by omega
       have Re:=ae (show q=(y*W+(x+1))*k by rw[Hq.out,<-Nat.add_assoc,Nat.add_mul (y*W+x) 1 k,Nat.one_mul]);go_wp2;go_roundw
       case rel=>exact⟨x+1,q,by omega,Re,by go_num,rfl,vD,ji⟩
       case measure=>simp[intOf];omega
    ·obtain rfl:x=W:=by omega
     have Re:=ae (show q=(y+1)*x*C by rw[Hq.out,Nat.add_mul y 1 x,Nat.one_mul]);go_wp2;go_roundw
     case rel=>exact⟨y+1,q,by omega,Re,by go_num,rfl,vD,ji⟩
     case measure=>simp[intOf];omega
  ·obtain rfl:y=H:=by omega
   have XE:q=N:=by rw[Hq.out,MR.out]
   subst XE;have HIF:Hid (aZ wr w.heap.size (.slice (some ⟨w2.heap.size,0,none⟩) (O.iu md o la lb).length q) (O.iu md o la lb)):=by
    have e:=vD.mono DU;have l:=II j.dM (O.cell j) q;rw[HF.out] at e l;rw[l];exact e
   have HL:=ae (show(O.iu md o la lb).length=q by have l:=II j.dM (O.cell j) q;rw[HF.out] at l;exact l);have HG:=ae (aC G2.out ji);clear vD ji;go_wp2;go_ret;exact⟨⟨w2.heap.size,q,by rw[HL.out];rfl,HIF.out⟩,HG.out⟩
theorem xp{w:World}{base:Nat}{e:TypeId}{size n:Nat}{a:Option Addr}{m c:Nat}{xs:List Value}(h:w.ownsRow base e size (.slice a m c) n xs)(hn:0<n):∃g dV,a=some ⟨g,0,none⟩/\m=n/\base<=g/\aj w g e dV/\n<=c/\c<=maxLen/\dV.size=c*size/\dV.toList.take (n*size)=xs:=by
 rcases h.2 with⟨_,h0⟩|⟨g,cap,dV,hv,hb,hh,hr⟩
 ·omega
 ·injection hv with h1 h2 h3
  subst h1 h2 h3;exact⟨g,dV,rfl,rfl,hb,hh,hr⟩
theorem pE{w w':World}{B G:Nat}{T E:TypeId}{size n:Nat}{v:Value}{xs:List Value}{cs:Array Value}(h:w.ownsRow B E size v n xs)(hB:aj w G T cs)(hT:T≠E)(hg:w.grownBy w' (some G)):w'.ownsRow B E size v n xs:=by
 refine World.ownsRow.kept h hg ?_
 cases hv:v.ownBlock with
 | none=>exact .inl rfl
 | some g=>
  refine .inr ?_;rintro e;injection e with e;subst e;rcases h.2 with⟨h1,-⟩|⟨g',cap,dV,h1,-,hh,-⟩
  ·rw[h1] at hv;exact aN hv (by simp[Value.ownBlock])
  ·rw[h1] at hv
   simp only[Value.ownBlock] at hv;injection hv with hv;subst hv;unfold aj at hB;rw[hh] at hB;injection hB with hB;injection hB with _ hB _;exact hT hB.symm
theorem akQ{α:Type}(l:List α)(n p:Nat)(x:α):(l.set p x).take n=(l.take n).set p x:=by
 apply nF
 intro i;rw[List.getElem?_take,oe,oe,List.getElem?_take];by_cases h:i<n
 ·by_cases hp:p=i
  ·subst hp
   simp only[h,if_true,Ae];by_cases hl:p<l.length
   ·rw[ay hl,ay (by omega)]
   ·rw[ak hl,ak (by omega)]
  ·simp[hp,h]
 ·by_cases hp:p=i
  ·subst hp
   rw[ak h,ay rfl,ak (by rw[Ae];omega)]
  ·simp[hp,h]
theorem DW{w:World}{base:Nat}{e:TypeId}{size n g c:Nat}{m:Nat}{xs:List Value}(h:w.ownsRow base e size (.slice (some ⟨g,0,none⟩) m c) n xs)(p:Nat)(u:Value):(w.setCell ⟨g,p,none⟩ u).ownsRow base e size (.slice (some ⟨g,0,none⟩) m c) n (xs.set p u):=by
 rcases h.2 with⟨h0,_⟩|⟨g',cap,dV,hv,hb,hh,E9,hm,hz,ht⟩
 ·exact aN h0 (by simp)
 ·simp only[Value.slice.injEq,j8,oI,and_true] at hv
  obtain⟨rfl,rfl,rfl⟩:=hv;refine⟨by rw[kG];exact h.1,.inr ⟨g,c,dV.setIfInBounds p u,rfl,hb,aj.set hh p u,E9,hm,by simpa using hz,?_⟩⟩;rw[Array.toList_setIfInBounds,akQ,ht]
theorem vE{α:Type}(f:α->List Value)(n:Nat)(hf:∀x,(f x).length=n):∀(xs:List α) (i j:Nat) (x y:α) (u:Value),xs[i]?=some x->j<n->(f x).set j u=f y->(xs.flatMap f).set (i*n+j) u=(xs.set i y).flatMap f
 | [],i,j,x,y,u,h,_,_=>aN h (by simp)
 | a::xs,0,j,x,y,u,h,hj,e=>by
  simp at h;subst h;simp only[List.flatMap_cons,List.set_cons_zero,Nat.zero_mul,Nat.zero_add];rw[List.set_append_left _ _ (by rw[hf];exact hj),e]
 | a::xs,i+1,j,x,y,u,h,hj,e=>by
  have h':xs[i]?=some x:=by simpa using h
  simp only[List.flatMap_cons,List.set_cons_succ];have ee:(i+1)*n+j=n+(i*n+j):=by rw[Nat.add_mul,Nat.one_mul];omega
  rw[ee,List.set_append_right _ _ (by rw[hf];omega),hf,Nat.add_sub_cancel_left,vE f n hf xs i j x y u h' hj e]
theorem map_set{α β:Type}(f:α->β)(l:List α)(i:Nat)(x:α):(l.set i x).map f=(l.map f).set i (f x):=List.map_set
theorem XF{α:Type}{l:List α}{i:Nat}{x p:α}(h:p∈l.set i x):p∈l\/p=x:=by
 rcases List.mem_or_eq_of_mem_set h with h|h
 ·exact .inl h
 ·exact .inr h
theorem Cf{w w':World}{B G:Nat}(hg:w.grownBy w' (some G))(h:B<=G)(hB:B<=w.heap.size):Below B w w':=
 ⟨hg.os,hg.tape,hg.output,hg.size,fun k hk=>hg.block k (by omega) (by simp;omega)⟩
theorem Ai{w w':World}{B:Nat}(hg:w.grownBy w' none)(hB:B<=w.heap.size):Below B w w':=
 ⟨hg.os,hg.tape,hg.output,hg.size,fun k hk=>hg.block k (by omega) (by simp)⟩
theorem Rf{a w w':World}{B:Nat}{row:Option Nat}(h:a.grownBy w row)(k:Below B w w')(hB:a.heap.size<=B):a.grownBy w' row:=
 ⟨k.os.trans h.os,k.tape.trans h.tape,k.output.trans h.output,jK h.size k.size,fun i hi eF=>(k.block i (by omega)).trans (h.block i hi eF)⟩
theorem XG{o:M.Op}(h:M.cm o.af=true):H.cM o=[o.a,o.aP,o.bA]:=by unfold H.cM;rw[ay h]
theorem XH{o:M.Op}(h:M.cm o.af=false)(h2:M.dr o.af=true):H.cM o=[o.a,o.b]:=by unfold H.cM;rw[ak (by rw[h];decide),ay h2]
theorem XI{o:M.Op}(h:M.cm o.af=false)(h2:M.dr o.af=false):H.cM o=[o.a]:=by unfold H.cM;rw[ak (by rw[h];decide),ak (by rw[h2];decide)]
theorem MS(o:M.Op)(ao:Option Addr)(p c:Nat)(w:World) :
  Calls prog 57 #[.agg (aO o (.slice ao p c))] w fun e w'=>(∃g,e=.returned (.slice (some ⟨g,0,none⟩) (H.cM o).length (H.cM o).length)/\aZ w' w.heap.size (.slice (some ⟨g,0,none⟩) (H.cM o).length (H.cM o).length) (H.cM o))/\w.grownBy w' none:=by
 have N0:=ae (aj.bB w 93 (oo o (.slice ao p c)));have G0:=aQ w (.cells (oo o (.slice ao p c)) 93) none;have rM:=ae G0;clear G0;show Calls prog 57 #[.agg (oo o (.slice ao p c))] w _
 cases hw:M.cm o.af with
 | true=>
  have HR:=ae (XG hw);have Hw:=ae hw;clear hw;go_enter func57,ntmps57;go_wp2_with (refine dj rfl 93 _ rfl w.heap.size rfl 93 (oo o (.slice ao p c)) (0,0) _ N0.out underlying93 rfl Tryz.db ?_);refine(yo o (.slice ao p c) true _ Hw.out).mono ?_;rintro e w1⟨rfl,aH⟩;have dN:=ae (aC rM.out aH);obtain⟨k0,k1,k2,k3,k4,k5,k6,k7,k8,k9,Aj,yB,Am,An,Ao,Ap⟩:=dS (N0.out.kept aH (by simp));clear aH k0 k2 k5 k6 k7 k8 k9 Aj yB Am An Ao Ap;have hz:=dN.out.size;go_wp2;go_ret;rw[HR.out];exact⟨⟨w1.heap.size,rfl,aZ.tM (by omega) rfl (by unfold maxLen;simp) (aj.bB w1 3 _)⟩,aC dN.out (aQ _ _ _)⟩
 | false=>
  have Hw:=ae hw
  cases h2:M.dr o.af with
  | true=>
   have HR:=ae (XH hw h2);have H2:=ae h2;clear hw h2;go_enter func57,ntmps57;go_wp2_with (refine dj rfl 93 _ rfl w.heap.size rfl 93 (oo o (.slice ao p c)) (0,0) _ N0.out underlying93 rfl Tryz.db ?_);refine(yo o (.slice ao p c) false _ Hw.out).mono ?_;rintro e w1⟨rfl,aH⟩;have dN:=ae (aC rM.out aH);have N1:=ae (N0.out.kept aH (by simp));clear aH;go_wp2_with (refine dj rfl 93 _ rfl w.heap.size rfl 93 (oo o (.slice ao p c)) (0,0) _ N1.out underlying93 rfl Tryz.db ?_);refine(Bz o (.slice ao p c) true _ H2.out).mono ?_;rintro e w2⟨rfl,aM⟩;have dZ:=ae (aC dN.out aM);obtain⟨k0,k1,k2,k3,k4,k5,k6,k7,k8,k9,Aj,yB,Am,An,Ao,Ap⟩:=dS (N1.out.kept aM (by simp));clear aM k0 k3 k4 k5 k6 k7 k8 k9 Aj yB Am An Ao Ap;have hz:=dZ.out.size;go_wp2;go_ret;rw[HR.out];exact⟨⟨w2.heap.size,rfl,aZ.tM (by omega) rfl (by unfold maxLen;simp) (aj.bB w2 3 _)⟩,aC dZ.out (aQ _ _ _)⟩
  | false=>
   have HR:=ae (XI hw h2);have H2:=ae h2;clear hw h2;go_enter func57,ntmps57;go_wp2_with (refine dj rfl 93 _ rfl w.heap.size rfl 93 (oo o (.slice ao p c)) (0,0) _ N0.out underlying93 rfl Tryz.db ?_);refine(yo o (.slice ao p c) false _ Hw.out).mono ?_;rintro e w1⟨rfl,aH⟩;have dN:=ae (aC rM.out aH);have N1:=ae (N0.out.kept aH (by simp));clear aH;go_wp2_with (refine dj rfl 93 _ rfl w.heap.size rfl 93 (oo o (.slice ao p c)) (0,0) _ N1.out underlying93 rfl Tryz.db ?_);refine(Bz o (.slice ao p c) false _ H2.out).mono ?_;rintro e w2⟨rfl,aM⟩;have dZ:=ae (aC dN.out aM);obtain⟨k0,k1,k2,k3,k4,k5,k6,k7,k8,k9,Aj,yB,Am,An,Ao,Ap⟩:=dS (N1.out.kept aM (by simp));clear aM k0 k2 k3 k4 k5 k6 k7 k8 k9 Aj yB Am An Ao Ap;have hz:=dZ.out.size;go_wp2;go_ret;rw[HR.out];exact⟨⟨w2.heap.size,rfl,aZ.tM (by omega) rfl (by unfold maxLen;simp) (aj.bB w2 3 _)⟩,aC dZ.out (aQ _ _ _)⟩
theorem IK(o:M.Op):(H.cM o).length<=3:=by
 cases hw:M.cm o.af with
 | true=>rw[XG hw];simp
 | false=>cases h2:M.dr o.af with
  | true=>rw[XH hw h2];simp
  | false=>rw[XI hw h2];simp
theorem akR{os:List M.Op}{k:Nat}{o:M.Op}(h:os[k]?=some o)(n:Int):H.iO (os.take (k+1)) n=H.iO (os.take k) n+(H.cM o).count n:=by
 rw[H.kj h];unfold H.iO;simp[List.flatMap_append,List.count_append]
theorem XJ(n:Int):∀os:List M.Op,H.iO os n<=3*os.length
 | []=>by simp[H.iO]
 | o::os=>by
  have:=XJ n os;have h1:=List.count_le_length (a:=n) (l:=H.cM o);have h2:=IK o;unfold H.iO at *;simp only[List.flatMap_cons,List.count_append,qe];omega
theorem XK{l:List Int}{j:Nat}{x n:Int}(h:l[j]?=some x)(e:x=n):(l.take (j+1)).count n=(l.take j).count n+1:=by
 rw[H.kj h,List.count_append];simp[e]
theorem XL{l:List Int}{j:Nat}{x n:Int}(h:l[j]?=some x)(e:x≠n):(l.take (j+1)).count n=(l.take j).count n:=by
 rw[H.kj h,List.count_append];simp[e]
theorem XM(l:List Int)(j:Nat)(n:Int):(l.take j).count n<=l.length:=jK List.count_le_length (by simp;omega)
theorem Rg(m:Nat)(md:M.Md)(n:Int)(w:World)(h:cN w m md)(iq:md.ag.length<=255)(j9:md.aJ.length<=255) :
  Calls prog 93 #[.pointer (some ⟨m,0,none⟩),.int .i64 n] w fun e w'=>e=.returned (.int .i64 (H.cH md n))/\w.grownBy w' none:=by
 obtain⟨a1,c1,a2,c2,a3,c3,hB,hT,hO,hU⟩:=h;have q1:w.cell? ⟨m,1,none⟩=some (.slice a2 md.ag.length c2):=hB.cell 1;have Q2:Hid (w.cell? ⟨m,2,none⟩=some (.slice a3 md.aJ.length c3)):=hB.cell 2;clear hT hB;go_enter func93,ntmps93;go_wp2;clear q1;go_loopw[5,17] (fun s i wr=>∃k:Nat,k<=md.ag.length/\i=.int .i64 k/\s=.int .i64 (H.iO (md.ag.take k) n)/\w.grownBy wr none) (fun _ i _=>md.ag.length-(intOf i).toNat)
 case atStart=>exact⟨0,bK _,rfl,rfl,gL _ _⟩
 case round=>
  obtain⟨k,hk,rfl,rfl,aF⟩:=hrel;have hs:=XJ n (md.ag.take k);rw[Ae] at hs;by_cases aK:k<md.ag.length
  ·obtain⟨o,ho⟩:∃o,md.ag[k]?=some o:=⟨_,aT aK⟩
   obtain⟨g,ao,p,cp,rfl,gN,-,-,hR⟩:=(hO.Z aF).get k o ho;have HS:=ae (akR ho n);have HB:=ae (aj.bB wr 93 (aO o (.slice ao p cp)));have HG:=ae (aC aF (aQ wr (.cells (aO o (.slice ao p cp)) 93) none));have HL:=ae (IK o);clear ho hO;generalize H.iO (md.ag.take k) n=s at *;go_wp2_with (first|(refine wpList_load_mid rfl 93 _ rfl g (k*16) rfl (aO o (.slice ao p cp)).toList _ hR underlying93 rfl Tryz.db ?_)|(refine aaY rfl 93 _ _ rfl wr.heap.size (aO o (.slice ao p cp)) rfl rfl 93 (aR 0 0 0 0 0 0 0 0 false (.slice none 0 0) 0 0 0 0 0 0) (aj.bB wr 93 _) Tryz.db rfl (nY ..) ?_;rw[World.setRow_alloc_new])|(refine dj rfl 93 _ rfl wr.heap.size rfl 93 (aO o (.slice ao p cp)) (0,0) _ HB.out underlying93 rfl Tryz.db ?_));refine(MS o ao p cp _).mono ?_;rintro e w3⟨⟨g3,rfl,kY⟩,aU⟩;have fW:=ae (aC HG.out aU);have mi:=ae kY;generalize H.cM o=L at *;have hL:=HL.out;clear aU kY hR aF HB;go_wp2;go_loopw[5,24] (fun s' i wq=>∃j:Nat,j<=L.length/\i=.int .i64 j/\s'=.int .i64 ((s+(L.take j).count n:Nat):Int)/\wq=w3) (fun _ i _=>L.length-(intOf i).toNat)
   case atStart=>exact⟨0,bK _,rfl,by simp,rfl⟩
   case round=>
    obtain⟨j,hj,rfl,rfl,rfl⟩:=hrel;have km:=XM L j n;by_cases Aq:j<L.length
    ·obtain⟨x,hx⟩:∃x,L[j]?=some x:=⟨_,aT Aq⟩
     obtain⟨g',fQ,-,-,d0⟩:=mi.out.get j x hx;injection fQ with fQ;injection fQ with fQ _ _;subst fQ;by_cases uj:x=n
     ·have HC:=ae (XK hx uj)
      have IL:(x==n)=true:=by simp[uj]
      clear hx uj;generalize (L.take j).count n=c at *;go_wp2;go_roundw
      case rel=>exact⟨j+1,by omega,by go_num,by rw[HC.out];go_num,by trivial⟩
      case measure=>simp[intOf];omega
     ·have HC:=ae (XL hx uj)
      have IL:(x==n)=false:=by simp[uj]
      clear hx uj;generalize (L.take j).count n=c at *;go_wp2;go_roundw
      case rel=>exact⟨j+1,by omega,by go_num,by rw[HC.out],by trivial⟩
      case measure=>simp[intOf];omega
    ·obtain rfl:j=L.length:=by omega
     rw[jo];rw[jo] at km;go_wp2;go_roundw
     case rel=>exact⟨k+1,by omega,by go_num,by rw[HS.out],fW.out⟩
     case measure=>simp[intOf];omega
  ·obtain rfl:k=md.ag.length:=by omega
   rw[jo] at hs ⊢;have q2:wr.cell? ⟨m,2,none⟩=some (.slice a3 md.aJ.length c3):=aG aF Q2.out;have hU':=hU.Z aF;have bH:=ae aF;have HE:Hid (H.cH md n=H.iO md.ag n+md.aJ.count n):=rfl;clear hO hU aF;generalize H.iO md.ag n=s at *;go_wp2;clear q2;go_loopw[5,40] (fun s' i wq=>∃j:Nat,j<=md.aJ.length/\i=.int .i64 j/\s'=.int .i64 ((s+(md.aJ.take j).count n:Nat):Int)/\wq=wr) (fun _ i _=>md.aJ.length-(intOf i).toNat)
   case atStart=>exact⟨0,bK _,rfl,by simp,rfl⟩
   case round=>
    obtain⟨j,hj,rfl,rfl,rfl⟩:=hrel;have km:=XM md.aJ j n;by_cases Aq:j<md.aJ.length
    ·obtain⟨x,hx⟩:∃x,md.aJ[j]?=some x:=⟨_,aT Aq⟩
     obtain⟨g',rfl,-,-,d0⟩:=hU'.get j x hx;by_cases uj:x=n
     ·have HC:=ae (XK hx uj)
      have IL:(x==n)=true:=by simp[uj]
      clear hx uj;generalize (md.aJ.take j).count n=c at *;go_wp2;go_roundw
      case rel=>exact⟨j+1,by omega,by go_num,by rw[HC.out];go_num,by trivial⟩
      case measure=>simp[intOf];omega
     ·have HC:=ae (XL hx uj)
      have IL:(x==n)=false:=by simp[uj]
      clear hx uj;generalize (md.aJ.take j).count n=c at *;go_wp2;go_roundw
      case rel=>exact⟨j+1,by omega,by go_num,by rw[HC.out],by trivial⟩
      case measure=>simp[intOf];omega
    ·obtain rfl:j=md.aJ.length:=by omega
     rw[jo];go_wp2;go_ret;exact⟨cE (by rw[HE.out]),bH.out⟩
namespace H
def fE(m:M.Md)(k:Nat):M.Md×List M.Op:=(m.ag.take k).foldl nD (m,[])
theorem MT{m:M.Md}{k:Nat}{o:M.Op}(h:m.ag[k]?=some o):fE m (k+1)=nD (fE m k) o:=by
 unfold fE;rw[kj h,List.foldl_append];rfl
theorem akT(m:M.Md):fE m m.ag.length=m.ag.foldl nD (m,[]):=by unfold fE;rw[jo]
theorem XN(m:M.Md):iP m={ (fE m m.ag.length).1 with ag:=(fE m m.ag.length).2 }:=by rw[akT];rfl
theorem IM(m:M.Md):∀k,k<=m.ag.length->(fE m k).1.ag=m.ag/\(fE m k).1.aJ=m.aJ/\(fE m k).1.au.length=m.au.length/\(fE m k).2.length<=k
 | 0,_=>⟨rfl,rfl,rfl,bj _⟩
 | k+1,hk=>by
  obtain⟨h1,h2,h3,h4⟩:=IM m k (by omega);rw[MT (aT (by omega))];unfold nD
  split
  ·exact⟨h1,h2,by unfold oR;simp[h3],by simp;omega⟩
  ·exact⟨h1,h2,h3,by simp;omega⟩
theorem XO{m:M.Md}{C:List (List Int)}(s:dH m C):∀k,k<=m.ag.length->dH (wo (fE m k).1 ((fE m k).2++m.ag.drop k)) C
 | 0,_=>s
 | k+1,hk=>by
  have ih:=XO s k (by omega);have hx:m.ag[k]?=some m.ag[k]:=aT (by omega);rw[MT hx];rw[<-List.getElem_cons_drop (by omega:k<m.ag.length)] at ih;generalize m.ag[k]=o at *;unfold nD;by_cases rB:rG (fE m k).1 o=true
  ·rw[ay rB]
   obtain⟨e,s'⟩:=ih.Mr (l:=(fE m k).2) (r:=m.ag.drop (k+1)) (o:=o) rfl rB;have e':O.iu (fE m k).1 o (M.aq (fE m k).1 o.a).data (M.aq (fE m k).1 o.b).data=D.bW C o.to:=e;rw[e'];exact s'
  ·rw[ak rB]
   show dH (wo (fE m k).1 ((fE m k).2++[o]++m.ag.drop (k+1))) C;rw[j4];exact ih
theorem akU{m:M.Md}{C:List (List Int)}(s:dH m C){o:M.Op}(ho:o∈m.ag)(hk:rG m o=true):O.jN m o (M.aq m o.a).data (M.aq m o.b).data:=by
 have kn:∀n∈cM o,(M.aq m n).af≠0/\(M.aq m n).af≠3:=by
  intro n hn;have:=List.all_eq_true.mp hk n hn;unfold pt at this
  simpa using this
 have k1:∀n∈cM o,(M.aq m n).af≠2->(M.aq m n).af=1:=by
  intro n hn h2;have a:=s.av ho hn;have:=kn n hn;have:=s.BS n a.1 a.2.1;omega
 have n2:=s.Ab o ho;have F:=s.fi o ho;have da:=s.data o.a (sP.mpr (.inl ⟨o,ho,vx o⟩)) (k1 _ (vx o) n2.1);rw[da] at F
 cases h2:M.dr o.af with
 | false=>exact QB F h2
 | true=>
  have hb:=QC h2 (QD h2);rw[s.data o.b (sP.mpr (.inl ⟨o,ho,hb⟩)) (k1 _ hb (n2.2 h2))] at F;exact F
theorem akV{m:M.Md}{C:List (List Int)}(s:dH m C){k:Nat}{o:M.Op}(h:m.ag[k]?=some o)(hk:rG (fE m k).1 o=true) :
  O.jN (fE m k).1 o (M.aq (fE m k).1 o.a).data (M.aq (fE m k).1 o.b).data:=by
 have hl:=M.bP h;have S:=XO s k (by omega);have ho:o∈(wo (fE m k).1 ((fE m k).2++m.ag.drop k)).ag:=by
  show o∈_++_;refine List.mem_append_right _ (bV (i:=0) ?_);rw[List.getElem?_drop];exact h
 have F:=akU S ho hk;exact⟨F.dQ,F.bT,F.ua,F.z,F.a,F.na,F.ca,F.b,F.nb,F.cb,F.w,F.lw,F.cw,F.bi,F.li,F.ci⟩
def XP(m:M.Md):List (List Int):=(D.BK m).map fun n=>List.replicate n.toNat 0
theorem akW{m:M.Md}(h:O.iN m):D.jM m (XP m)=true:=by
 unfold D.jM XP;rw[fh,beq_iff_eq,jg]
 constructor
 ·rw[List.map_map]
  conv=>rhs;rw[<-List.map_id (D.BK m)]
  apply List.map_congr_left
  intro n hn;unfold D.BK at hn;obtain⟨t,ht,rfl⟩:=List.mem_map.mp hn;have d:=h.kN t (List.mem_filter.mp ht).1;have:0<=M.cellsOf t:=by
   unfold M.cellsOf;exact kX (kX (by have:=d.h0;omega) (by have:=d.w0;omega)) (by have:=d.c0;omega)
  show((List.replicate _ (0:Int)).length:Int)=M.cellsOf t;rw[vF];omega
 ·intro l hl
  obtain⟨n,-,rfl⟩:=List.mem_map.mp hl;rw[jg];intro v hv;rw[List.mem_replicate] at hv;rw[hv.2];decide
theorem MU{m:M.Md}(h:O.iN m):∃C,dH m C:=⟨_,Mw h (akW h)⟩
theorem XQ(m:M.Md)(i:Nat):m.ag.length-1<=(kA m i).ag.length/\(kA m i).ag.length<=m.ag.length:=by
 unfold kA
 cases h:m.ag[i]? with
 | none=>exact⟨by show _<=m.ag.length;omega,bj _⟩
 | some o=>
  show _<=(if cH m o.to=0 then { m with ag:=m.ag.eraseIdx i } else m:M.Md).ag.length/\(if cH m o.to=0 then { m with ag:=m.ag.eraseIdx i } else m:M.Md).ag.length<=_;have:=M.bP h
  split
  ·show _<=(m.ag.eraseIdx i).length/\(m.ag.eraseIdx i).length<=_
   rw[List.length_eraseIdx,ay this];omega
  ·omega
theorem XR{m:M.Md}{i:Nat}{o:M.Op}(h:m.ag[i]?=some o)(hu:cH m o.to=0):kA m i=wo m (m.ag.eraseIdx i):=by unfold kA;rw[h];show(if _ then _ else _)=_;rw[ay hu];rfl
theorem XS{m:M.Md}{i:Nat}{o:M.Op}(h:m.ag[i]?=some o)(hu:cH m o.to≠0):kA m i=m:=by unfold kA;rw[h];show(if _ then _ else _)=_;rw[ak hu]
def pF(m:M.Md)(k:Nat):List M.Op:=(m.ag.take k).foldl (joinStep m) []
theorem Rh{m:M.Md}{k:Nat}{o:M.Op}(h:m.ag[k]?=some o):pF m (k+1)=joinStep m (pF m k) o:=by
 unfold pF;rw[kj h,List.foldl_append];rfl
theorem Ri(m:M.Md):∀k,k<=m.ag.length->(pF m k).length<=k
 | 0,_=>bj _
 | k+1,hk=>by
  have:=Ri m k (by omega);rw[Rh (aT (by omega))];unfold joinStep
  split
  ·rw[List.length_modify];omega
  ·simp;omega
theorem XT(m:M.Md):oS m=wo m (pF m m.ag.length):=by unfold pF;rw[jo];rfl
def qf(m:M.Md)(k:Nat):List M.Tn:=m.au.mapIdx fun n t=>if n<k then Aa m n t else t
theorem akX(m:M.Md):qf m 0=m.au:=by
 unfold qf
 apply nF
 intro i;rw[List.getElem?_mapIdx];simp
theorem akY(m:M.Md):{ m with au:=qf m m.au.length }=mL m:=by
 unfold mL qf
 congr 1
 apply nF
 intro i;rw[List.getElem?_mapIdx,List.getElem?_mapIdx]
 cases h:m.au[i]? with
 | none=>rfl
 | some t=>simp only[Option.map_some];rw[ay (M.bP h)]
theorem XU{m:M.Md}{k:Nat}{t:M.Tn}(h:m.au[k]?=some t):(qf m k)[k]?=some t:=by
 unfold qf;rw[List.getElem?_mapIdx,h];simp
theorem akZ{m:M.Md}{k:Nat}{t:M.Tn}(h:m.au[k]?=some t)(hu:cH m k=0):qf m (k+1)=(qf m k).set k { t with data:=[] }:=by
 apply nF
 intro i;unfold qf;rw[oe,List.getElem?_mapIdx,List.getElem?_mapIdx,List.length_mapIdx];by_cases e:k=i
 ·subst e
  rw[ay rfl,ay (M.bP h),h];simp[Aa,hu]
 ·rw[ak e]
  cases hi:m.au[i]? with
  | none=>rfl
  | some u=>
   simp only[Option.map_some];by_cases c:i<k
   ·rw[ay c,ay (by omega)]
   ·rw[ak c,ak (by omega)]
theorem ak0{m:M.Md}{k:Nat}(hu:cH m k≠0):qf m (k+1)=qf m k:=by
 apply nF
 intro i;unfold qf;rw[List.getElem?_mapIdx,List.getElem?_mapIdx]
 cases hi:m.au[i]? with
 | none=>rfl
 | some u=>
  simp only[Option.map_some];by_cases c:i<k
  ·rw[ay c,ay (by omega)]
  ·by_cases c2:i=k
   ·subst c2
    rw[ay (by omega),ak c];unfold Aa;rw[ak hu]
   ·rw[ak c,ak (by omega)]
end H
theorem ir.put{w:World}{base g n c:Nat}{ts:List M.Tn}{i:Nat}{t t':M.Tn}(h:ir w base (.slice (some ⟨g,0,none⟩) n c) ts)(hi:ts[i]?=some t)(j:Nat)(hj:j<6)(u:Value)(f:Value->Value)(hv:∀dv,(bg t dv).toList.set j u=(bg t' (f dv)).toList)
  (hd:∀dv,aZ w base dv t.data->aZ w base (f dv) t'.data):ir (w.setCell ⟨g,i*6+j,none⟩ u) base (.slice (some ⟨g,0,none⟩) n c) (ts.set i t'):=by
 obtain⟨ps,h1,h2,h3⟩:=h;have hl:i<ts.length:=M.bP hi;obtain⟨g',dV,e,-,-,hB,-⟩:=xp h2 (by omega);simp only[j8,oI,and_true] at e;subst e;subst h1;rw[dY] at hi;obtain⟨p,hp,rfl⟩:=Option.map_eq_some_iff.1 hi;have ap:∀v l,aZ w base v l->aZ (w.setCell ⟨g,i*6+j,none⟩ u) base v l:=fun v l hI=>pE hI hB (by decide) (bD _ _ _ _);refine⟨ps.set i (t',f p.2),by rw[List.map_set],?_,fun q hq=>?_⟩
 ·have h4:=DW h2 (i*6+j) u
  rw[vE (fun p:M.Tn×Value=>(bg p.1 p.2).toList) 6 (fun _=>rfl) ps i j p (t',f p.2) u hp hj (hv p.2)] at h4
  simpa using h4
 ·rcases XF hq with hq|rfl
  ·exact ap _ _ (h3 q hq)
  ·exact ap _ _ (hd _ (h3 p (bV hp)))
theorem ak1{m:M.Md}{L:List Int}{j:Nat}{x:Int}(hx:L[j]?=some x)(h:(L.take j).all (fun n=>H.pt (M.aq m n))=true)(hk:H.pt (M.aq m x)=true):(L.take (j+1)).all (fun n=>H.pt (M.aq m n))=true:=by
 rw[H.kj hx,List.all_append,h];simp[hk]
theorem ak2{m:M.Md}{L:List Int}{j:Nat}{x:Int}(hx:L[j]?=some x)(hk:H.pt (M.aq m x)=false):L.all (fun n=>H.pt (M.aq m n))=false:=by
 rw[List.all_eq_false];exact⟨x,bV hx,by rw[hk];decide⟩
theorem ak3(m:Nat)(md:M.Md)(o:M.Op)(ao:Option Addr)(p c:Nat)(w:World)(h:cN w m md)(iq:md.au.length<=255) :
  Calls prog 92 #[.pointer (some ⟨m,0,none⟩),.agg (aO o (.slice ao p c))] w fun e w'=>e=.returned (.bool (H.rG md o))/\w.grownBy w' none:=by
 have HM:=ae h;have N0:=ae (aj.bB w 93 (oo o (.slice ao p c)));have G0:=ae (aQ w (.cells (oo o (.slice ao p c)) 93) none);have HL:=ae (IK o);have HE:Hid (H.rG md o=(H.cM o).all fun n=>H.pt (M.aq md n)):=rfl;clear h;show Calls prog 92 #[.pointer (some ⟨m,0,none⟩),.agg (oo o (.slice ao p c))] w _;go_enter func92,ntmps92;go_wp2_with (refine dj rfl 93 _ rfl w.heap.size rfl 93 (oo o (.slice ao p c)) (0,0) _ N0.out underlying93 rfl Tryz.db ?_);refine(MS o ao p c _).mono ?_;rintro e w3⟨⟨g3,rfl,kY⟩,aU⟩;have fW:=ae (aC G0.out aU);have mi:=ae kY;generalize H.cM o=L at *;have hL:=HL.out;clear aU kY N0 G0;go_wp2;go_loopw[11] (fun i wr=>∃j:Nat,j<=L.length/\i=.int .i64 j/\(L.take j).all (fun n=>H.pt (M.aq md n))=true/\w3.grownBy wr none) (fun i _=>L.length-(intOf i).toNat)
 case atStart=>exact⟨0,bK _,rfl,by simp,gL _ _⟩
 case round=>
  obtain⟨j,hj,rfl,kH,bO⟩:=hrel;have jU:=ae kH;have cT:=ae (aC fW.out bO);clear kH;by_cases Aq:j<L.length
  ·obtain⟨x,hx⟩:∃x,L[j]?=some x:=⟨_,aT Aq⟩
   obtain⟨g',fQ,-,-,d0⟩:=(mi.out.Z bO).get j x hx;injection fQ with fQ;injection fQ with fQ _ _;subst fQ;have oq:=ae fun hk=>ak2 (m:=md) hx hk;have fg:=ae fun hk=>ak1 hx jU.out hk;have HGG:=ae bO;clear hx bO;go_wp2_with fail;refine(iS m md x _ (HM.out.Z cT.out) iq).mono ?_;rintro e w5⟨t,ht,⟨aa,pp,cc,rfl⟩,cJ⟩;rw[ht.out] at oq fg;have iC:=ae (aC HGG.out cJ);have kD:=ae (aC cT.out cJ);have lk:=ae (aC iC.out (aQ w5 (.cells #[.int .i64 t.af,.int .i64 t.h,.int .i64 t.w,.int .i64 t.c,.int .i64 t.zero,.slice aa pp cc] 106) none));have fJ:=ae (aC kD.out (aQ w5 (.cells #[.int .i64 t.af,.int .i64 t.h,.int .i64 t.w,.int .i64 t.c,.int .i64 t.zero,.slice aa pp cc] 106) none));clear cJ d0
   cases k0:(t.af==0) with
   | true=>
    have He:=ae (oq.out (show H.pt t=false by unfold H.pt;rw[k0];rfl));go_wp2;go_ret;exact⟨bq (by rw[HE.out,He.out]),fJ.out⟩
   | false=>
    cases k3:(t.af==3) with
    | true=>
     have He:=ae (oq.out (show H.pt t=false by unfold H.pt;rw[k0,k3];rfl));go_wp2;go_ret;exact⟨bq (by rw[HE.out,He.out]),fJ.out⟩
    | false=>
     have He:=ae (fg.out (show H.pt t=true by unfold H.pt;rw[k0,k3];rfl));go_wp2;go_roundw
     case rel=>exact⟨j+1,by omega,by go_num,He.out,lk.out⟩
     case measure=>simp[intOf];omega
  ·obtain rfl:j=L.length:=by omega
   have He:=ae (show L.all (fun n=>H.pt (M.aq md n))=true by have:=jU.out;rwa [jo] at this);go_wp2;go_ret;exact⟨bq (by rw[HE.out,He.out]),cT.out⟩
end Go.Proofs.YtcnhfffgbamonabGreat
