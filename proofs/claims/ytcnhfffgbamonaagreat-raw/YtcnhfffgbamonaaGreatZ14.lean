import Derived.Test.YtcnhfffgbamonaaGreatZ13
set_option maxRecDepth 100000
set_option maxHeartbeats 6400000
namespace Go.Proofs.YtcnhfffgbamonaaGreat
open Go.Proofs.Tryz
open Go.RowKit
theorem Cp(m:Nat)(md:M.Md)(n:Int)(w0 w:World)(h:cN w0 m md)(hg:w0.grownBy w none)(_hw:md.au.length<=255) :
  Calls prog 108 #[.pointer (some ⟨m,0,none⟩),.int .i64 n] w fun e w'=>∃t,Hid (M.aq md n=t)/\(∃ao c,e=.returned (.agg #[.int .i64 t.af,.int .i64 t.h,.int .i64 t.w,.int .i64 t.c,.int .i64 t.zero,.slice ao t.data.length c])/\aZ w0 0 (.slice ao t.data.length c) t.data)/\w.grownBy w' none:=by
 obtain⟨a1,c1,a2,c2,a3,c3,hB,hT,hO,hU⟩:=h;have qk:=(hB.kept hg (by simp)).lt;have q0:w.cell? ⟨m,0,none⟩=some (.slice a1 md.au.length c1):=(hB.kept hg (by simp)).cell 0;have HG:=ae hg;clear hB hO hU hg;by_cases hc:n<0\/(md.au.length:Int)<=n
 ·have He:=ae (WN hc)
  clear hT;rcases hc with hc|hc
  ·go_enter func108,ntmps108
   go_wp2;refine bodyPost_ret (v:=.agg (t6 0 0 0 0 0 (.slice none 0 0))) ?hr rfl ?_
   case hr=>exact results_cell_row Tryz.results108 _ _ w.heap.size 158 _ (0,0) _ rfl (aj.bA w 158 _) underlying158 rfl Tryz.iI
   exact⟨M.vx,He,⟨none,0,rfl,aZ.nil _ _⟩,aQ _ _ _⟩
  ·by_cases vC:n<0
   ·omega
   ·go_enter func108,ntmps108
    go_wp2;refine bodyPost_ret (v:=.agg (t6 0 0 0 0 0 (.slice none 0 0))) ?hr rfl ?_
    case hr=>exact results_cell_row Tryz.results108 _ _ w.heap.size 158 _ (0,0) _ rfl (aj.bA w 158 _) underlying158 rfl Tryz.iI
    exact⟨M.vx,He,⟨none,0,rfl,aZ.nil _ _⟩,aQ _ _ _⟩
 ·obtain⟨k,rfl⟩:=fT (show 0<=n by omega)
  have hk:k<md.au.length:=by omega
  obtain⟨t,ht⟩:∃t,md.au[k]?=some t:=⟨_,aS hk⟩;obtain⟨g,ao,m',cp,rfl,-,-,hI,f0,f1,f2,f3,f4,f5⟩:=hT.get k t ht;have d0:=aG HG.out f0;have d1:=aG HG.out f1;have d2:=aG HG.out f2;have d3:=aG HG.out f3;have d4:=aG HG.out f4;have d5:=aG HG.out f5;clear f0 f1 f2 f3 f4 f5;have FL:=hI.len;subst FL;have He:=ae (L7 ht);have HI:=ae (hI.mono (bK _));have gQ:g<w.heap.size:=ql w _ d0;clear hT ht hc hI;go_enter func108,ntmps108;go_wp2;refine bodyPost_ret (v:=.agg (t6 t.af t.h t.w t.c t.zero (.slice ao t.data.length cp))) ?hr rfl ?_
  case hr=>exact results_cell_row Tryz.results108 _ _ w.heap.size 158 _ (0,0) _ rfl (aj.bA w 158 _) underlying158 rfl Tryz.iI
  exact⟨t,He,⟨ao,cp,rfl,HI.out⟩,aQ _ _ _⟩
theorem Tryz.Jh:(prog.info? 180).map (·.size)=some 5:=by kernel_rfl
abbrev g5(h v c z:Int)(dv:Value):Array Value:=#[.int .i64 h,.int .i64 v,.int .i64 c,.int .i64 z,dv]
theorem Nl(k h v c z:Int)(dv:Value)(ao:Option Addr)(n cp:Nat)(w:World) :
  Calls prog 151 #[.agg (t6 k h v c z dv),.slice ao n cp] w fun e w'=>e=.returned (.agg (g5 h v c z (.slice ao n cp)))/\w.grownBy w' none:=by
 go_enter func151,ntmps151;go_wp2;refine bodyPost_ret (v:=.agg (g5 h v c z (.slice ao n cp))) ?hr rfl ?_
 case hr=>exact results_cell_row Tryz.results151 _ _ (w.heap.size+1) 180 _ (0,0) _ rfl (aj.yA w _ 180 _) underlying180 rfl Tryz.Jh
 exact⟨rfl,nZ _ _ _ _⟩
def setMany(cs:Array Value):Nat->List Value->Array Value
 | _,[]=>cs
 | o,v::r=>setMany (cs.setIfInBounds o v) (o+1) r
theorem Yj:∀(vs:List Value) (cs:Array Value) (o:Nat),(setMany cs o vs).size=cs.size
 | [],_,_=>rfl
 | v::r,cs,o=>by rw[setMany,Yj r];simp
theorem aj.many{b:Nat}{t:TypeId}:∀(vs:List Value) {w:World} {cs:Array Value} (o:Nat),aj w b t cs->aj (w.setCells b o vs) b t (setMany cs o vs)
 | [],_,_,_,h=>h
 | v::r,w,cs,o,h=>by rw[World.setCells,setMany];exact aj.many r (o+1) (h.set o v)
theorem Nm(b:Nat):∀(vs:List Value) (w:World) (o:Nat),w.grownBy (w.setCells b o vs) (some b)
 | [],w,_=>fZ _ _
 | v::r,w,o=>by rw[World.setCells];exact aC (bD w b o v) (Nm b r _ _)
theorem aj.there{w:World}{b:Nat}{t:TypeId}{cs:Array Value}(h:aj w b t cs)(o n:Nat)(hn:o+n<=cs.size):w.there b o n:=fun j hj=>by
 rw[h.cell,h.free];exact⟨by rw[Array.getElem?_eq_getElem (by omega)];rfl,rfl⟩
abbrev oo(o:M.Op)(sv:Value):Array Value:=aR o.af o.a o.b o.aP o.bC o.to o.size o.aE o.same sv o.lo o.hi o.aT o.below o.left o.right
abbrev vQ(o:M.Op)(sv:Value)(a0 a1 a2 a3 a4 b0 b1 b2 b3 b4 w0 w1 w2 w3 w4 i0 i1 i2 i3 i4 m0 m1 m2 m3 m4 m5:Value):Array Value:=
 #[.int .i64 o.af,.int .i64 o.a,.int .i64 o.b,.int .i64 o.aP,.int .i64 o.bC,.int .i64 o.to,.int .i64 o.size,.int .i64 o.aE,.bool o.same,sv,.int .i64 o.lo,.int .i64 o.hi,.int .i64 o.aT,.int .i64 o.below,.int .i64 o.left,.int .i64 o.right,
  a0,a1,a2,a3,a4,b0,b1,b2,b3,b4,w0,w1,w2,w3,w4,i0,i1,i2,i3,i4,m0,m1,m2,m3,m4,m5]
abbrev zi:Value:=.int .i64 0
abbrev zs:Value:=.slice none 0 0
structure SI(w0 w1:World)(o:M.Op)(sv:Value)(cs:Array Value):Prop where
 g:w0.grownBy w1 none
 B:aj w1 w0.heap.size 142 (oo o sv)
 J:aj w1 (w0.heap.size+1) 182 cs
 z:cs.size=42
theorem SI.call{w0 w1 w2:World}{o:M.Op}{sv:Value}{cs:Array Value}(h:SI w0 w1 o sv cs)(hg:w1.grownBy w2 none):SI w0 w2 o sv cs:=
 ⟨aC h.g hg,h.B.kept hg (by simp),h.J.kept hg (by simp),h.z⟩
theorem SI.put{w0 w1:World}{o:M.Op}{sv:Value}{cs:Array Value}(h:SI w0 w1 o sv cs)(q:Nat)(vs:List Value):SI w0 (w1.setCells (w0.heap.size+1) q vs) o sv (setMany cs q vs):=
 ⟨dF h.g (Nm _ vs w1 q) (by omega),h.B.kept (Nm _ vs w1 q) (by simp),h.J.many vs q,by rw[Yj];exact h.z⟩
theorem SI.there{w0 w1:World}{o:M.Op}{sv:Value}{cs:Array Value}(h:SI w0 w1 o sv cs)(q n:Nat)(hn:q+n<=42):w1.there (w0.heap.size+1) q n:=h.J.there q n (by rw[h.z];exact hn)
structure SJ(w0 w1:World)(o:M.Op)(sv:Value)(cs:Array Value)(tb:Nat)(ts:Array Value):Prop where
 I:SI w0 w1 o sv cs
 T:aj w1 tb 158 ts
 lt:w0.heap.size+1<tb
theorem SJ.call{w0 w1 w2:World}{o:M.Op}{sv:Value}{cs:Array Value}{tb:Nat}{ts:Array Value}(h:SJ w0 w1 o sv cs tb ts)(hg:w1.grownBy w2 none):SJ w0 w2 o sv cs tb ts:=
 ⟨h.I.call hg,h.T.kept hg (by simp),h.lt⟩
theorem alE{ag:Array Oper}{rest:List Oper}{op:Oper}{a:Act}{w0 w1:World}{Q:Exit->Act->World->Prop}{o:M.Op}{sv:Value}{cs:Array Value}(I:SI w0 w1 o sv cs)(eH:op.guard=none)(ty:TypeId)(x y:Operand)(ho:op.op=.store ty x y)
  (q:Nat) (cells:Array Value) (hx:a.eval x=.pointer (some ⟨w0.heap.size+1,q,none⟩)) (hy:a.eval y=.agg cells) (hq:q+cells.size<=42)
  (hi:(prog.info? ty).map (·.size)=some cells.size) (h1:cells.all (·.oneCell')=true)
  (h:∀w2,SI w0 w2 o sv (setMany cs q cells.toList)->wpList prog ag Q rest (a.put op.dst undef) w2):wpList prog ag Q (op::rest) a w1:=
 wpList_store_mid eH ty x y ho (w0.heap.size+1) q cells hx hy (I.there q cells.size hq) hi h1 (h _ (I.put q cells.toList))
theorem Nn{ag:Array Oper}{rest:List Oper}{op:Oper}{a:Act}{w0 w1:World}{Q:Exit->Act->World->Prop}{o:M.Op}{sv:Value}{cs:Array Value}{tb:Nat}{ts:Array Value}(I:SJ w0 w1 o sv cs tb ts)(eH:op.guard=none)(ty:TypeId)(x y:Operand)(ho:op.op=.store ty x y)
  (q:Nat) (cells:Array Value) (hx:a.eval x=.pointer (some ⟨w0.heap.size+1,q,none⟩)) (hy:a.eval y=.agg cells) (hq:q+cells.size<=42)
  (hi:(prog.info? ty).map (·.size)=some cells.size) (h1:cells.all (·.oneCell')=true)
  (h:∀w2,SJ w0 w2 o sv (setMany cs q cells.toList) tb ts->wpList prog ag Q rest (a.put op.dst undef) w2):wpList prog ag Q (op::rest) a w1:=
 wpList_store_mid eH ty x y ho (w0.heap.size+1) q cells hx hy (I.I.there q cells.size hq) hi h1 (h _ ⟨I.I.put q cells.toList,I.T.kept (Nm _ cells.toList w1 q) (by have:=I.lt;simp;omega),I.lt⟩)
theorem RF{w:World}{b:Nat}{t:TypeId}{cs:Array Value}(h:aj w b t cs)(vs:Array Value):aj (w.setRow b vs) b t vs:=by
 exact setRow_heap _ _ _ _ _ _ h
theorem No{ag:Array Oper}{rest:List Oper}{op:Oper}{a:Act}{w0 w1:World}{Q:Exit->Act->World->Prop}{o:M.Op}{sv:Value}{cs:Array Value}{tb:Nat}{ts:Array Value}(I:SJ w0 w1 o sv cs tb ts)(eH:op.guard=none)(x y:Operand)(ho:op.op=.store 158 x y)
  (cells:Array Value) (hx:a.eval x=.pointer (some ⟨tb,0,none⟩)) (hy:a.eval y=.agg cells) (hz:ts.size=cells.size)
  (hi:(prog.info? 158).map (·.size)=some cells.size) (h1:cells.all (·.oneCell')=true)
  (h:∀w2,SJ w0 w2 o sv cs tb cells->wpList prog ag Q rest (a.put op.dst undef) w2):wpList prog ag Q (op::rest) a w1:=
 aaY eH 158 x y ho tb cells hx hy 158 ts I.T hi hz h1 (h _ ⟨⟨dF I.I.g (vB w1 tb cells) (by have:=I.lt;omega),I.I.B.kept (vB w1 tb cells) (by have:=I.lt;simp;omega),I.I.J.kept (vB w1 tb cells) (by have:=I.lt;simp;omega),I.I.z⟩,RF I.T cells,I.lt⟩)
theorem Np(h v c z:Int)(ao:Option Addr)(m cp:Nat):(g5 h v c z (.slice ao m cp)).all (·.oneCell')=true:=by
 simp[Value.oneCell']
theorem alF(o:M.Op)(sv a0 a1 a2 a3 a4 b0 b1 b2 b3 b4 w0 w1 w2 w3 w4 i0 i1 i2 i3 i4 m0 m1 m2 m3 m4 m5 x0 x1 x2 x3 x4 x5:Value) :
  setMany (vQ o sv a0 a1 a2 a3 a4 b0 b1 b2 b3 b4 w0 w1 w2 w3 w4 i0 i1 i2 i3 i4 m0 m1 m2 m3 m4 m5) 36 #[x0,x1,x2,x3,x4,x5].toList=vQ o sv a0 a1 a2 a3 a4 b0 b1 b2 b3 b4 w0 w1 w2 w3 w4 i0 i1 i2 i3 i4 x0 x1 x2 x3 x4 x5:=by kernel_rfl
theorem alG(o:M.Op)(sv a0 a1 a2 a3 a4 b0 b1 b2 b3 b4 w0 w1 w2 w3 w4 i0 i1 i2 i3 i4 m0 m1 m2 m3 m4 m5 x0 x1 x2 x3 x4:Value) :
  setMany (vQ o sv a0 a1 a2 a3 a4 b0 b1 b2 b3 b4 w0 w1 w2 w3 w4 i0 i1 i2 i3 i4 m0 m1 m2 m3 m4 m5) 16 #[x0,x1,x2,x3,x4].toList=vQ o sv x0 x1 x2 x3 x4 b0 b1 b2 b3 b4 w0 w1 w2 w3 w4 i0 i1 i2 i3 i4 m0 m1 m2 m3 m4 m5:=by kernel_rfl
theorem alH(o:M.Op)(sv a0 a1 a2 a3 a4 b0 b1 b2 b3 b4 w0 w1 w2 w3 w4 i0 i1 i2 i3 i4 m0 m1 m2 m3 m4 m5 x0 x1 x2 x3 x4:Value) :
  setMany (vQ o sv a0 a1 a2 a3 a4 b0 b1 b2 b3 b4 w0 w1 w2 w3 w4 i0 i1 i2 i3 i4 m0 m1 m2 m3 m4 m5) 21 #[x0,x1,x2,x3,x4].toList=vQ o sv a0 a1 a2 a3 a4 x0 x1 x2 x3 x4 w0 w1 w2 w3 w4 i0 i1 i2 i3 i4 m0 m1 m2 m3 m4 m5:=by kernel_rfl
theorem alI(o:M.Op)(sv a0 a1 a2 a3 a4 b0 b1 b2 b3 b4 w0 w1 w2 w3 w4 i0 i1 i2 i3 i4 m0 m1 m2 m3 m4 m5 x0 x1 x2 x3 x4:Value) :
  setMany (vQ o sv a0 a1 a2 a3 a4 b0 b1 b2 b3 b4 w0 w1 w2 w3 w4 i0 i1 i2 i3 i4 m0 m1 m2 m3 m4 m5) 26 #[x0,x1,x2,x3,x4].toList=vQ o sv a0 a1 a2 a3 a4 b0 b1 b2 b3 b4 x0 x1 x2 x3 x4 i0 i1 i2 i3 i4 m0 m1 m2 m3 m4 m5:=by kernel_rfl
theorem alJ(o:M.Op)(sv a0 a1 a2 a3 a4 b0 b1 b2 b3 b4 w0 w1 w2 w3 w4 i0 i1 i2 i3 i4 m0 m1 m2 m3 m4 m5 x0 x1 x2 x3 x4:Value) :
  setMany (vQ o sv a0 a1 a2 a3 a4 b0 b1 b2 b3 b4 w0 w1 w2 w3 w4 i0 i1 i2 i3 i4 m0 m1 m2 m3 m4 m5) 31 #[x0,x1,x2,x3,x4].toList=vQ o sv a0 a1 a2 a3 a4 b0 b1 b2 b3 b4 w0 w1 w2 w3 w4 x0 x1 x2 x3 x4 m0 m1 m2 m3 m4 m5:=by kernel_rfl
abbrev alK(o:M.Op)(sv:Value)(a:O.G)(av:Value)(b:O.G)(bv:Value)(u:O.G)(uv:Value)(i:O.G)(iv:Value)(z:M.Tn)(zv:Value):Array Value:=
 vQ o sv (.int .i64 a.h) (.int .i64 a.w) (.int .i64 a.c) (.int .i64 a.zero) av (.int .i64 b.h) (.int .i64 b.w) (.int .i64 b.c) (.int .i64 b.zero) bv (.int .i64 u.h) (.int .i64 u.w) (.int .i64 u.c) (.int .i64 u.zero) uv (.int .i64 i.h) (.int .i64 i.w) (.int .i64 i.c) (.int .i64 i.zero) iv
  (.int .i64 z.af) (.int .i64 z.h) (.int .i64 z.w) (.int .i64 z.c) (.int .i64 z.zero) zv
theorem RG{w:World}{g:Nat}{j:O.J}{A:JA}{az:Option Addr}{nz cz:Nat}
  (hJ:aj w g 182 (alK j.op (.slice A.sa j.op.bM.length A.sc) j.a (.slice A.aa j.a.cells.length A.ac) j.b (.slice A.ba j.b.cells.length A.bc) j.aP (.slice A.wa j.aP.cells.length A.wc) j.bC (.slice A.ia j.bC.cells.length A.ic) j.dM (.slice az nz cz)))
  (hs:gF w 0 (.slice A.sa j.op.bM.length A.sc) j.op.bM) (ha:kH w (.slice A.aa j.a.cells.length A.ac) j.a.cells) (hb:kH w (.slice A.ba j.b.cells.length A.bc) j.b.cells)
  (hw:kH w (.slice A.wa j.aP.cells.length A.wc) j.aP.cells) (hi:kH w (.slice A.ia j.bC.cells.length A.ic) j.bC.cells):Jm w g j A:=
 ⟨hJ.cell 0,hJ.cell 6,hJ.cell 7,hJ.cell 9,hJ.cell 10,hJ.cell 11,hJ.cell 12,hJ.cell 14,⟨hJ.cell 16,hJ.cell 17,hJ.cell 18,hJ.cell 19,hJ.cell 20,ha⟩,⟨hJ.cell 21,hJ.cell 22,hJ.cell 23,hJ.cell 24,hJ.cell 25,hb⟩,
  ⟨hJ.cell 26,hJ.cell 27,hJ.cell 28,hJ.cell 29,hJ.cell 30,hw⟩,⟨hJ.cell 31,hJ.cell 32,hJ.cell 33,hJ.cell 34,hJ.cell 35,hi⟩,hJ.cell 36,⟨az,nz,cz,hJ.cell 41⟩,hJ.cell 37,hJ.cell 38,hJ.cell 39,hJ.cell 40,hs⟩
theorem alL(m:Nat)(md:M.Md)(o:M.Op)(so:Option Addr)(sn sc:Nat)(a:Option Addr)(an ac:Nat)(la:List Int)(b:Option Addr)(bn bc:Nat)(lb:List Int)(w:World)(hM:cN w m md)(hn:md.au.length<=255)
  (hS:gF w 0 (.slice so sn sc) o.bM) (hA:kH w (.slice a an ac) la) (hB:kH w (.slice b bn bc) lb) :
  Calls prog 122 #[.pointer (some ⟨m,0,none⟩),.agg (oo o (.slice so sn sc)),.slice a an ac,.slice b bn bc] w fun e w'=>∃g A,e=.returned (.pointer (some ⟨g,0,none⟩))/\w.heap.size<=g/\Jm w' g (O.start md o la lb) A/\w.grownBy w' none:=by
 obtain rfl:=hS.len;obtain rfl:=hA.len;obtain rfl:=hB.len;have N0:=ae (aj.bA w 142 (oo o (.slice so o.bM.length sc)));have HM:=ae hM;have HS:=ae hS;have HA:=ae hA;have HB:=ae hB;clear hM hS hA hB;have I0:SI w ((w.alloc (.cells (oo o (.slice so o.bM.length sc)) 142)).alloc (.cells (vQ o (.slice so o.bM.length sc) zi zi zi zi zs zi zi zi zi zs zi zi zi zi zs zi zi zi zi zs zi zi zi zi zi zs) 182)) o (.slice so o.bM.length sc) _:=
  ⟨nZ _ _ _ _,(aj.bA w _ _).alloc _,aj.yA _ _ _ _,rfl⟩
 go_enter func122,ntmps122;go_wp2_with (refine dj rfl 142 _ rfl w.heap.size rfl 142 (oo o (.slice so o.bM.length sc)) (0,0) _ N0.out underlying142 rfl Tryz.de ?_);refine(Cp m md o.to w _ HM.out I0.g hn).mono ?_;rintro e w1⟨tz,RH,⟨az,cz,rfl,hIz⟩,aH⟩;have kS:=ae (I0.call aH);clear I0 aH N0 hIz;go_wp2_with (refine alE kS.out rfl 158 _ _ rfl 36 (t6 tz.af tz.h tz.w tz.c tz.zero (.slice az tz.data.length cz)) rfl rfl (show 36+6<=42 by decide) Tryz.iI (Ix _ _ _ _ _ _ _ _) ?_;intro w2 I2;rw[alF] at I2;have jF:=ae I2;have c1:w2.cell? ⟨w.heap.size,1,none⟩=some (.int .i64 o.a):=I2.B.cell 1;have ju:=I2.J.lt;clear I2);refine(Cp m md o.a w _ HM.out jF.out.g hn).mono ?_;rintro e w3⟨ta,Eb,⟨aa,ca,rfl,Nq⟩,aU⟩;have DG:=(jF.out.call aU).J.lt;have mr:=ae (jF.out.call aU);clear kS jF aU Nq c1 ju;go_wp2_with (first
  | (refine No (SJ.mk (mr.out.call (aQ _ _ _)) (aj.bA _ _ _) (by omega)) rfl _ _ rfl (t6 ta.af ta.h ta.w ta.c ta.zero (.slice aa ta.data.length ca)) rfl rfl rfl Tryz.iI (Ix _ _ _ _ _ _ _ _) ?_;intro w4 I4;have ky:=ae I4;have Ec:=I4.T.lt;clear I4 mr)
  | (refine dj rfl 158 _ rfl w3.heap.size rfl 158 (t6 ta.af ta.h ta.w ta.c ta.zero (.slice aa ta.data.length ca)) (0,0) _ ky.out.T underlying158 rfl Tryz.iI ?_))
 refine(Nl ta.af ta.h ta.w ta.c ta.zero (.slice aa ta.data.length ca) a la.length ac _).mono ?_;rintro e w5⟨rfl,cK⟩;have H5:=ae (ky.out.call cK);clear cK ky DG Ec;go_wp2_with (first
  | (refine Nn H5.out rfl 180 _ _ rfl 16 (g5 ta.h ta.w ta.c ta.zero (.slice a la.length ac)) rfl rfl (show 16+5<=42 by decide) Tryz.Jh (Np _ _ _ _ _ _ _) ?_;intro w6 I6;rw[alG] at I6;have H6:=ae I6;clear I6 H5)
  | (refine dj rfl 142 _ rfl w.heap.size rfl 142 (oo o (.slice so o.bM.length sc)) (0,0) _ H6.out.I.B underlying142 rfl Tryz.de ?_))
 cases h2:M.dr o.af with
 | true=>
  have Hw:M.cm o.af=false:=by
   cases h:M.cm o.af with
   | true=>rw[WA h] at h2;exact Bool.noConfusion h2
   | false=>rfl
  have HE:=ae (show O.start md o la lb=⟨o,O.fg ta la,O.fg (M.aq md o.b) lb,O.xA,O.xA,tz⟩ by
   unfold O.start;rw[ay h2,ak (by rw[Hw];decide),ak (by rw[Hw];decide),RH.out,Eb.out])
  have HW:=ae Hw;refine(BO o (.slice so o.bM.length sc) true _ h2).mono ?_;rintro e w7⟨rfl,dJ⟩;have H7:=ae (H6.out.call dJ);have c2:w7.cell? ⟨w.heap.size,2,none⟩=some (.int .i64 o.b):=H7.out.I.B.cell 2;clear dJ H6 h2 Hw;go_wp2_with fail;refine(Cp m md o.b w _ HM.out H7.out.I.g hn).mono ?_;rintro e w8⟨tb,Ji,⟨ab,cb,rfl,Nr⟩,pa⟩;have H8:=ae (H7.out.call pa);clear pa H7 Nr c2;go_wp2_with (first
  | (refine No H8.out rfl _ _ rfl (t6 tb.af tb.h tb.w tb.c tb.zero (.slice ab tb.data.length cb)) rfl rfl rfl Tryz.iI (Ix _ _ _ _ _ _ _ _) ?_;intro w9 Cq;have Ed:=ae Cq;have RI:=Cq.T.lt;clear Cq H8)
  | (refine dj rfl 158 _ rfl w3.heap.size rfl 158 (t6 tb.af tb.h tb.w tb.c tb.zero (.slice ab tb.data.length cb)) (0,0) _ Ed.out.T underlying158 rfl Tryz.iI ?_))
  refine(Nl tb.af tb.h tb.w tb.c tb.zero (.slice ab tb.data.length cb) b lb.length bc _).mono ?_;rintro e Mq⟨rfl,Am⟩;have Jj:=ae (Ed.out.call Am);clear Am Ed RI;go_wp2_with (first
   | (refine Nn Jj.out rfl 180 _ _ rfl 21 (g5 tb.h tb.w tb.c tb.zero (.slice b lb.length bc)) rfl rfl (show 21+5<=42 by decide) Tryz.Jh (Np _ _ _ _ _ _ _) ?_;intro RJ Cr;rw[alH] at Cr;have Ee:=ae Cr;clear Cr Jj)
   | (refine dj rfl 142 _ rfl w.heap.size rfl 142 (oo o (.slice so o.bM.length sc)) (0,0) _ Ee.out.I.B underlying142 rfl Tryz.de ?_))
  refine(yI o (.slice so o.bM.length sc) false _ HW.out).mono ?_;rintro e RK⟨rfl,Cs⟩;have rT:=ae (Ee.out.call Cs);clear Cs Ee;go_wp2;go_ret;refine⟨_,⟨so,sc,a,ac,b,bc,none,0,none,0⟩,rfl,by omega,?_,rT.out.I.g⟩;rw[HE.out,Ji.out];exact RG rT.out.I.J (eY HS.out rT.out.I.g) (HA.out.Z rT.out.I.g) (HB.out.Z rT.out.I.g) (kH.nil _) (kH.nil _)
 | false=>
  refine(BO o (.slice so o.bM.length sc) false _ h2).mono ?_;rintro e w7⟨rfl,dJ⟩;have H7:=ae (H6.out.call dJ);clear dJ H6;have H2:=ae h2;clear h2;go_wp2_with (refine dj rfl 142 _ rfl w.heap.size rfl 142 (oo o (.slice so o.bM.length sc)) (0,0) _ H7.out.I.B underlying142 rfl Tryz.de ?_)
  cases hw:M.cm o.af with
  | false=>
   have HE:=ae (show O.start md o la lb=⟨o,O.fg ta la,O.xA,O.xA,O.xA,tz⟩ by
    unfold O.start;rw[ak (by rw[H2.out];decide),ak (by rw[hw];decide),ak (by rw[hw];decide),RH.out,Eb.out])
   refine(yI o (.slice so o.bM.length sc) false _ hw).mono ?_;rintro e RK⟨rfl,Cs⟩;have rT:=ae (H7.out.call Cs);clear Cs H7 hw;go_wp2;go_ret;refine⟨_,⟨so,sc,a,ac,none,0,none,0,none,0⟩,rfl,by omega,?_,rT.out.I.g⟩;rw[HE.out];exact RG rT.out.I.J (eY HS.out rT.out.I.g) (HA.out.Z rT.out.I.g) (kH.nil _) (kH.nil _) (kH.nil _)
  | true=>
   have HE:=ae (show O.start md o la lb=⟨o,O.fg ta la,O.xA,O.fg (M.aq md o.aP) (M.aq md o.aP).data,O.fg (M.aq md o.bC) (M.aq md o.bC).data,tz⟩ by
    unfold O.start;rw[ak (by rw[H2.out];decide),ay hw,ay hw,RH.out,Eb.out])
   refine(yI o (.slice so o.bM.length sc) true _ hw).mono ?_;rintro e RK⟨rfl,Cs⟩;have rT:=ae (H7.out.call Cs);have c3:RK.cell? ⟨w.heap.size,3,none⟩=some (.int .i64 o.aP):=rT.out.I.B.cell 3;clear Cs H7 hw;go_wp2_with fail;refine(Cp m md o.aP w _ HM.out rT.out.I.g hn).mono ?_;rintro e w8⟨tw,Ns,⟨aw,cw,rfl,Yk⟩,pa⟩;have H8:=ae (rT.out.call pa);have HIw:=ae Yk;clear pa rT Yk c3;go_wp2_with (first
    | (refine No H8.out rfl _ _ rfl (t6 tw.af tw.h tw.w tw.c tw.zero (.slice aw tw.data.length cw)) rfl rfl rfl Tryz.iI (Ix _ _ _ _ _ _ _ _) ?_;intro w9 Cq;have Ed:=ae Cq;have RI:=Cq.T.lt;have cd:w9.cell? ⟨w3.heap.size,5,none⟩=some (.slice aw tw.data.length cw):=Cq.T.cell 5;clear Cq H8)
    | (refine dj rfl 158 _ rfl w3.heap.size rfl 158 (t6 tw.af tw.h tw.w tw.c tw.zero (.slice aw tw.data.length cw)) (0,0) _ Ed.out.T underlying158 rfl Tryz.iI ?_))
   refine(Nl tw.af tw.h tw.w tw.c tw.zero (.slice aw tw.data.length cw) aw tw.data.length cw _).mono ?_;rintro e Mq⟨rfl,Am⟩;have Jj:=ae (Ed.out.call Am);clear Am Ed RI cd;go_wp2_with (first
    | (refine Nn Jj.out rfl 180 _ _ rfl 26 (g5 tw.h tw.w tw.c tw.zero (.slice aw tw.data.length cw)) rfl rfl (show 26+5<=42 by decide) Tryz.Jh (Np _ _ _ _ _ _ _) ?_;intro RJ Cr;rw[alI] at Cr;have Ee:=ae Cr;have c4:RJ.cell? ⟨w.heap.size,4,none⟩=some (.int .i64 o.bC):=Cr.I.B.cell 4;clear Cr Jj))
   refine(Cp m md o.bC w _ HM.out Ee.out.I.g hn).mono ?_;rintro e w13⟨ti,Hti,⟨ai,ci,rfl,Jk⟩,Yl⟩;have Ym:=ae (Ee.out.call Yl);have Jl:=ae Jk;clear Yl Ee Jk c4;go_wp2_with (first
    | (refine No Ym.out rfl _ _ rfl (t6 ti.af ti.h ti.w ti.c ti.zero (.slice ai ti.data.length ci)) rfl rfl rfl Tryz.iI (Ix _ _ _ _ _ _ _ _) ?_;intro w14 Nt;have RL:=ae Nt;have alQ:=Nt.T.lt;have cd:w14.cell? ⟨w3.heap.size,5,none⟩=some (.slice ai ti.data.length ci):=Nt.T.cell 5;clear Nt Ym)
    | (refine dj rfl 158 _ rfl w3.heap.size rfl 158 (t6 ti.af ti.h ti.w ti.c ti.zero (.slice ai ti.data.length ci)) (0,0) _ RL.out.T underlying158 rfl Tryz.iI ?_))
   refine(Nl ti.af ti.h ti.w ti.c ti.zero (.slice ai ti.data.length ci) ai ti.data.length ci _).mono ?_;rintro e w15⟨rfl,Yn⟩;have Yo:=ae (RL.out.call Yn);clear Yn RL alQ cd;go_wp2_with (first
    | (refine Nn Yo.out rfl 180 _ _ rfl 31 (g5 ti.h ti.w ti.c ti.zero (.slice ai ti.data.length ci)) rfl rfl (show 31+5<=42 by decide) Tryz.Jh (Np _ _ _ _ _ _ _) ?_;intro w16 RM;rw[alJ] at RM;have FM:=ae RM;clear RM Yo))
   go_ret;refine⟨_,⟨so,sc,a,ac,none,0,aw,cw,ai,ci⟩,rfl,by omega,?_,FM.out.I.g⟩;rw[HE.out,Ns.out,Hti.out];exact RG FM.out.I.J (eY HS.out FM.out.I.g) (HA.out.Z FM.out.I.g) (kH.nil _) (HIw.out.Z FM.out.I.g).row (Jl.out.Z FM.out.I.g).row
theorem Jn(t:M.Tn)(f:Int->Int->Int->Int)(n:Nat):(O.qV t f n).length=n:=by unfold O.qV;simp
theorem Yp(t:M.Tn)(f:Int->Int->Int->Int):O.qV t f (M.cellsOf t).toNat=D.oT t f:=rfl
theorem Yq{t:M.Tn}{f:Int->Int->Int->Int}{W C y x k q:Nat}(hW:t.w=W)(hC:t.c=C)(hx:x<W)(hk:k<C)(hq:q=(y*W+x)*C+k):O.qV t f (q+1)=O.qV t f q++[f y x k]:=by
 unfold O.qV;rw[List.range_succ,lK,List.map_singleton,hW,hC];have e1:q/C=y*W+x:=by
  rw[hq,Nat.add_comm,Nat.add_mul_div_right _ _ (by omega),Nat.div_eq_of_lt hk];omega
 have e2:q%C=k:=by rw[hq,Nat.add_comm,Nat.add_mul_mod_self_right,Nat.mod_eq_of_lt hk]
 have e3:q/(W*C)=y:=by
  rw[Nat.mul_comm,<-Nat.div_div_eq_div_mul,e1,Nat.add_comm,Nat.add_mul_div_right _ _ (by omega),Nat.div_eq_of_lt hx];omega
 have e4:q/C%W=x:=by rw[e1,Nat.add_comm,Nat.add_mul_mod_self_right,Nat.mod_eq_of_lt hx]
 have f1:(q:Int)/((W:Int)*C)=y:=by rw[<-Int.natCast_mul,<-Int.natCast_ediv,e3]
 have f2:(q:Int)/(C:Int)%(W:Int)=x:=by rw[<-Int.natCast_ediv,<-Int.natCast_emod,e4]
 have f3:(q:Int)%(C:Int)=k:=by rw[<-Int.natCast_emod,e2]
 rw[f1,f2,f3]
theorem Yr{H W C y x k:Nat}(hy:y<H)(hx:x<W)(hk:k<C):(y*W+x)*C+k<H*W*C:=by
 have h1:(y+1)*W<=H*W:=Nat.mul_le_mul_right _ (by omega);rw[Nat.add_mul,Nat.one_mul] at h1;have h2:(y*W+x+1)*C<=H*W*C:=Nat.mul_le_mul_right _ (by omega);rw[Nat.add_mul,Nat.one_mul] at h2;omega
theorem Ys(m:Nat)(md:M.Md)(o:M.Op)(so:Option Addr)(sn sc:Nat)(a:Option Addr)(an ac:Nat)(la:List Int)(b:Option Addr)(bn bc:Nat)(lb:List Int)(w:World)(hM:cN w m md)(hn:md.au.length<=255)
  (hS:gF w 0 (.slice so sn sc) o.bM) (hA:kH w (.slice a an ac) la) (hB:kH w (.slice b bn bc) lb) (F:O.jQ md o la lb) :
  Calls prog 87 #[.pointer (some ⟨m,0,none⟩),.agg (aO o (.slice so sn sc)),.slice a an ac,.slice b bn bc] w fun e w'=>(∃g c,e=.returned (.slice (some ⟨g,0,none⟩) (O.iu md o la lb).length c)/\aZ w' w.heap.size (.slice (some ⟨g,0,none⟩) (O.iu md o la lb).length c) (O.iu md o la lb))/\w.grownBy w' none:=by
 obtain⟨i0,hi,cP,cQ,cZ⟩:=info_parts Tryz.oO;have N0:=ae (aj.bA w 142 (oo o (.slice so sn sc)));have G0:=aQ w (.cells (oo o (.slice so sn sc)) 142) none;have HC:=ae (alL m md o so sn sc a an ac la b bn bc lb _ (hM.Z G0) hn (eY hS G0) (hA.Z G0) (hB.Z G0));have jx:=ae F.ok;have BP:=ae (als F);have Hz:=ae F.z;have HE:=ae (show O.iu md o la lb=D.oT (M.aq md o.to) (O.cell (O.start md o la lb)) from rfl);show Calls prog 87 #[.pointer (some ⟨m,0,none⟩),.agg (oo o (.slice so sn sc)),.slice a an ac,.slice b bn bc] w _;clear hM hS hA hB F;go_enter func87,ntmps87;go_wp2_with (refine dj rfl 142 _ rfl w.heap.size rfl 142 (oo o (.slice so sn sc)) (0,0) _ N0.out underlying142 rfl Tryz.de ?_);refine HC.out.mono ?_;rintro e w1⟨g,A,rfl,hg,hJ,aH⟩;have G1:=ae (aC G0 aH);have HJ:=ae hJ;clear N0 HC G0 aH hJ;obtain⟨da,dn,dc,hd⟩:=HJ.out.mv;generalize hj:O.start md o la lb=j at *;have hz:j.dM=M.aq md o.to:=by rw[<-hj];rfl
 rw[<-hz] at Hz HE;have HZ:=ae hz;clear hz hj;have e0:=HJ.out.Ye;have e1:=HJ.out.mh;have e2:=HJ.out.mw;have e3:=HJ.out.mc;have e4:=HJ.out.mz;go_wp2_with fail;refine(LX j.dM.af j.dM.h j.dM.w j.dM.c j.dM.zero (.slice da dn dc) _ (by have:=Hz.out.h0;omega) Hz.out.h1 (by have:=Hz.out.w0;omega) Hz.out.w1 (by have:=Hz.out.c0;omega) Hz.out.c1).mono ?_;rintro e w2⟨rfl,aM⟩;have xG:=ae (HJ.out.kept aM);have G2:=ae (aC G1.out aM);have Ef:=G2.out.size;obtain⟨H,hH⟩:∃H:Nat,j.dM.h=H:=⟨j.dM.h.toNat,(uw (by have:=Hz.out.h0;omega)).symm⟩;obtain⟨W,hW⟩:∃W:Nat,j.dM.w=W:=⟨j.dM.w.toNat,(uw (by have:=Hz.out.w0;omega)).symm⟩;obtain⟨C,hC⟩:∃C:Nat,j.dM.c=C:=⟨j.dM.c.toNat,(uw (by have:=Hz.out.c0;omega)).symm⟩;have H1:H<=255:=by have:=Hz.out.h1;omega
 have W1:W<=255:=by have:=Hz.out.w1;omega
 have C1:C<=255:=by have:=Hz.out.c1;omega
 obtain⟨N,hN⟩:∃N:Nat,N=H*W*C:=⟨_,rfl⟩;have eN:j.dM.h*j.dM.w*j.dM.c=(N:Int):=by rw[hH,hW,hC,hN,Int.natCast_mul,Int.natCast_mul]
 have N1:N<=512:=by have:=Hz.out.mn;unfold M.cellsOf at this;omega
 have Nu:=ae hN;have HHH:=ae hH;have Yt:=ae hW;have Yu:=ae hC;have HF:=ae (show O.qV j.dM (O.cell j) N=O.iu md o la lb by
  rw[HE.out,<-Yp];congr 1;unfold M.cellsOf;omega)
 rw[eN];clear aM HJ G1 e0 e1 e2 e3 e4 hd hN eN hH hW hC HE;go_wp2_with (at_make;refine wpList_make_own _ rfl _ _ 33 rfl w2.heap.size 3 i0 (.int .i64 0) 1 underlying33 hi cP cQ _ _ _ N rfl rfl rfl ?c1 ?c2 ?c3 ?_)
 case c1=>rw[cZ];omega
 case c2=>unfold maxLen;omega
 case c3=>exact bj _
 intro w3 cB aU;have lh:aZ w3 w2.heap.size (.slice (some ⟨w2.heap.size,0,none⟩) 0 N) []:=cB;have DG:=aU.size;clear cB;go_wp2;go_loopw[11,12] (fun v i wr=>∃y q:Nat,y<=H/\Hid (q=y*W*C)/\i=.int .i64 y/\v=.slice (some ⟨w2.heap.size,0,none⟩) q N/\aZ wr w2.heap.size (.slice (some ⟨w2.heap.size,0,none⟩) q N) (O.qV j.dM (O.cell j) q)/\w2.grownBy wr none) (fun _ i _=>H-(intOf i).toNat)
 case atStart=>exact⟨0,0,bK _,(by simp[Hid]),rfl,rfl,lh,aU⟩
 case round=>
  obtain⟨y,q,hy,Hq,rfl,rfl,vR,jo⟩:=hrel;have e1:=(xG.out.kept jo).mh;rw[HHH.out] at e1;by_cases aJ:y<H
  ·go_wp2
   go_loopw[11,13] (fun v i wr=>∃x q:Nat,x<=W/\Hid (q=(y*W+x)*C)/\i=.int .i64 x/\v=.slice (some ⟨w2.heap.size,0,none⟩) q N/\aZ wr w2.heap.size (.slice (some ⟨w2.heap.size,0,none⟩) q N) (O.qV j.dM (O.cell j) q)/\w2.grownBy wr none) (fun _ i _=>W-(intOf i).toNat)
   case atStart=>exact⟨0,q,bK _,Hq.out,rfl,rfl,vR,jo⟩
   case round=>
    clear vR jo Hq e1;obtain⟨x,q,hx,Hq,rfl,rfl,vR,jo⟩:=hrel;have e2:=(xG.out.kept jo).mw;rw[Yt.out] at e2;by_cases lk:x<W
    ·go_wp2
     go_loopw[11,14] (fun v i wr=>∃k q:Nat,k<=C/\Hid (q=(y*W+x)*C+k)/\i=.int .i64 k/\v=.slice (some ⟨w2.heap.size,0,none⟩) q N/\aZ wr w2.heap.size (.slice (some ⟨w2.heap.size,0,none⟩) q N) (O.qV j.dM (O.cell j) q)/\w2.grownBy wr none) (fun _ i _=>C-(intOf i).toNat)
     case atStart=>exact⟨0,q,bK _,Hq.out,rfl,rfl,vR,jo⟩
     case round=>
      clear vR jo Hq e2;obtain⟨k,q,hk,Hq,rfl,rfl,vR,jo⟩:=hrel;have e3:=(xG.out.kept jo).mc;rw[Yu.out] at e3;by_cases qn:k<C
      ·have Yv:q<N:=by rw[Hq.out,Nu.out];exact Yr aJ lk qn
       have fm:=ae (Yq (f:=O.cell j) Yt.out Yu.out lk qn Hq.out);go_wp2_with fail;refine(alD g j A y x k _ (xG.out.kept jo) jx.out BP.out (by omega) (by omega) (by omega) (by omega) (by omega) (by omega)).mono ?_;rintro e w4⟨rfl,bm⟩;have lS:=vR.Z bm;have RN:=aC jo bm;have Ec:=RN.size;clear vR jo bm e3;generalize O.cell j y x k=c at *;go_wp2_with (at_builtin;refine wpList_append_fits _ rfl _ _ 33 rfl w2.heap.size 3 i0 1 underlying33 hi cQ w2.heap.size q N _ rfl (lB (by have e:=lS;unfold aZ at e;rw[Jn] at e;exact e) _) ⟨w4.heap.size,0,none⟩ 1 1 [.int .i64 c] rfl rfl ?c1 ?c2 ?c3 ?_)
       case c1=>exact kb w4 3 #[.int .i64 c]
       case c2=>intro u hu;simp at hu;subst hu;rfl
       case c3=>omega
       intro w5 Jo cK;have rU:Hid (aZ w5 w2.heap.size (.slice (some ⟨w2.heap.size,0,none⟩) (q+1) N) (O.qV j.dM (O.cell j) (q+1))):=by
        rw[fm.out];unfold Hid aZ;rw[nJ,Jn,lK];exact Jo
       have iC:=ae (dF (aC RN (aQ _ _ _)) cK (bj _));clear Jo cK lS RN;go_wp2;go_roundw
       case rel=>exact⟨k+1,q+1,by omega,(by have:=Hq.out;unfold Hid;omega),by go_num,rfl,rU.out,iC.out⟩
       case measure=>simp[intOf];omega
      ·obtain rfl:k=C:=by omega
       have RO:=ae (show q=(y*W+(x+1))*k by rw[Hq.out,<-Nat.add_assoc,Nat.add_mul (y*W+x) 1 k,Nat.one_mul]);go_wp2;go_roundw
       case rel=>exact⟨x+1,q,by omega,RO,by go_num,rfl,vR,jo⟩
       case measure=>simp[intOf];omega
    ·obtain rfl:x=W:=by omega
     have RO:=ae (show q=(y+1)*x*C by rw[Hq.out,Nat.add_mul y 1 x,Nat.one_mul]);go_wp2;go_roundw
     case rel=>exact⟨y+1,q,by omega,RO,by go_num,rfl,vR,jo⟩
     case measure=>simp[intOf];omega
  ·obtain rfl:y=H:=by omega
   have Yv:q=N:=by rw[Hq.out,Nu.out]
   subst Yv;have HIF:Hid (aZ wr w.heap.size (.slice (some ⟨w2.heap.size,0,none⟩) (O.iu md o la lb).length q) (O.iu md o la lb)):=by
    have e:=vR.mono Ef;have l:=Jn j.dM (O.cell j) q;rw[HF.out] at e l;rw[l];exact e
   have HL:=ae (show(O.iu md o la lb).length=q by have l:=Jn j.dM (O.cell j) q;rw[HF.out] at l;exact l);have HG:=ae (aC G2.out jo);clear vR jo;go_wp2;go_ret;exact⟨⟨w2.heap.size,q,by rw[HL.out];rfl,HIF.out⟩,HG.out⟩
theorem xH{w:World}{base:Nat}{e:TypeId}{size n:Nat}{a:Option Addr}{m c:Nat}{xs:List Value}(h:w.ownsRow base e size (.slice a m c) n xs)(hn:0<n):∃g dY,a=some ⟨g,0,none⟩/\m=n/\base<=g/\aj w g e dY/\n<=c/\c<=maxLen/\dY.size=c*size/\dY.toList.take (n*size)=xs:=by
 rcases h.2 with⟨_,h0⟩|⟨g,cap,dY,hv,hb,hh,hr⟩
 ·omega
 ·injection hv with h1 h2 h3
  subst h1 h2 h3;exact⟨g,dY,rfl,rfl,hb,hh,hr⟩
theorem pL{w w':World}{B G:Nat}{T E:TypeId}{size n:Nat}{v:Value}{xs:List Value}{cs:Array Value}(h:w.ownsRow B E size v n xs)(hB:aj w G T cs)(hT:T≠E)(hg:w.grownBy w' (some G)):w'.ownsRow B E size v n xs:=by
 refine World.ownsRow.kept h hg ?_
 cases hv:v.ownBlock with
 | none=>exact .inl rfl
 | some g=>
  refine .inr ?_;rintro e;injection e with e;subst e;rcases h.2 with⟨h1,-⟩|⟨g',cap,dY,h1,-,hh,-⟩
  ·rw[h1] at hv;exact aN hv (by simp[Value.ownBlock])
  ·rw[h1] at hv
   simp only[Value.ownBlock] at hv;injection hv with hv;subst hv;unfold aj at hB;rw[hh] at hB;injection hB with hB;injection hB with _ hB _;exact hT hB.symm
theorem alT{α:Type}(l:List α)(n p:Nat)(x:α):(l.set p x).take n=(l.take n).set p x:=by
 apply nM
 intro i;rw[List.getElem?_take,ox,ox,List.getElem?_take];by_cases h:i<n
 ·by_cases hp:p=i
  ·subst hp
   simp only[h,if_true,xE];by_cases hl:p<l.length
   ·rw[ay hl,ay (by omega)]
   ·rw[ak hl,ak (by omega)]
  ·simp[hp,h]
 ·by_cases hp:p=i
  ·subst hp
   rw[ak h,ay rfl,ak (by rw[xE];omega)]
  ·simp[hp,h]
theorem Eg{w:World}{base:Nat}{e:TypeId}{size n g c:Nat}{m:Nat}{xs:List Value}(h:w.ownsRow base e size (.slice (some ⟨g,0,none⟩) m c) n xs)(p:Nat)(u:Value):(w.setCell ⟨g,p,none⟩ u).ownsRow base e size (.slice (some ⟨g,0,none⟩) m c) n (xs.set p u):=by
 rcases h.2 with⟨h0,_⟩|⟨g',cap,dY,hv,hb,hh,FC,hm,hz,ht⟩
 ·exact aN h0 (by simp)
 ·simp only[Value.slice.injEq,kj,oP,and_true] at hv
  obtain⟨rfl,rfl,rfl⟩:=hv;refine⟨by rw[kK];exact h.1,.inr ⟨g,c,dY.setIfInBounds p u,rfl,hb,aj.set hh p u,FC,hm,by simpa using hz,?_⟩⟩;rw[Array.toList_setIfInBounds,alT,ht]
theorem vS{α:Type}(f:α->List Value)(n:Nat)(hf:∀x,(f x).length=n):∀(xs:List α) (i j:Nat) (x y:α) (u:Value),xs[i]?=some x->j<n->(f x).set j u=f y->(xs.flatMap f).set (i*n+j) u=(xs.set i y).flatMap f
 | [],i,j,x,y,u,h,_,_=>aN h (by simp)
 | a::xs,0,j,x,y,u,h,hj,e=>by
  simp at h;subst h;simp only[List.flatMap_cons,List.set_cons_zero,Nat.zero_mul,Nat.zero_add];rw[List.set_append_left _ _ (by rw[hf];exact hj),e]
 | a::xs,i+1,j,x,y,u,h,hj,e=>by
  have h':xs[i]?=some x:=by simpa using h
  simp only[List.flatMap_cons,List.set_cons_succ];have ee:(i+1)*n+j=n+(i*n+j):=by rw[Nat.add_mul,Nat.one_mul];omega
  rw[ee,List.set_append_right _ _ (by rw[hf];omega),hf,Nat.add_sub_cancel_left,vS f n hf xs i j x y u h' hj e]
theorem map_set{α β:Type}(f:α->β)(l:List α)(i:Nat)(x:α):(l.set i x).map f=(l.map f).set i (f x):=List.map_set
theorem Yw{α:Type}{l:List α}{i:Nat}{x p:α}(h:p∈l.set i x):p∈l\/p=x:=by
 rcases List.mem_or_eq_of_mem_set h with h|h
 ·exact .inl h
 ·exact .inr h
theorem Cu{w w':World}{B G:Nat}(hg:w.grownBy w' (some G))(h:B<=G)(hB:B<=w.heap.size):Below B w w':=
 ⟨hg.os,hg.tape,hg.output,hg.size,fun k hk=>hg.block k (by omega) (by simp;omega)⟩
theorem AB{w w':World}{B:Nat}(hg:w.grownBy w' none)(hB:B<=w.heap.size):Below B w w':=
 ⟨hg.os,hg.tape,hg.output,hg.size,fun k hk=>hg.block k (by omega) (by simp)⟩
theorem RP{a w w':World}{B:Nat}{row:Option Nat}(h:a.grownBy w row)(k:Below B w w')(hB:a.heap.size<=B):a.grownBy w' row:=
 ⟨k.os.trans h.os,k.tape.trans h.tape,k.output.trans h.output,jN h.size k.size,fun i hi ey=>(k.block i (by omega)).trans (h.block i hi ey)⟩
theorem Yx{o:M.Op}(h:M.cm o.af=true):H.cM o=[o.a,o.aP,o.bC]:=by unfold H.cM;rw[ay h]
theorem Yy{o:M.Op}(h:M.cm o.af=false)(h2:M.dr o.af=true):H.cM o=[o.a,o.b]:=by unfold H.cM;rw[ak (by rw[h];decide),ay h2]
theorem Yz{o:M.Op}(h:M.cm o.af=false)(h2:M.dr o.af=false):H.cM o=[o.a]:=by unfold H.cM;rw[ak (by rw[h];decide),ak (by rw[h2];decide)]
theorem Nv(o:M.Op)(ao:Option Addr)(p c:Nat)(w:World) :
  Calls prog 106 #[.agg (aO o (.slice ao p c))] w fun e w'=>(∃g,e=.returned (.slice (some ⟨g,0,none⟩) (H.cM o).length (H.cM o).length)/\aZ w' w.heap.size (.slice (some ⟨g,0,none⟩) (H.cM o).length (H.cM o).length) (H.cM o))/\w.grownBy w' none:=by
 have N0:=ae (aj.bA w 142 (oo o (.slice ao p c)));have G0:=aQ w (.cells (oo o (.slice ao p c)) 142) none;have rV:=ae G0;clear G0;show Calls prog 106 #[.agg (oo o (.slice ao p c))] w _
 cases hw:M.cm o.af with
 | true=>
  have HR:=ae (Yx hw);have Hw:=ae hw;clear hw;go_enter func106,ntmps106;go_wp2_with (refine dj rfl 142 _ rfl w.heap.size rfl 142 (oo o (.slice ao p c)) (0,0) _ N0.out underlying142 rfl Tryz.de ?_);refine(yI o (.slice ao p c) true _ Hw.out).mono ?_;rintro e w1⟨rfl,aH⟩;have dN:=ae (aC rV.out aH);obtain⟨k0,k1,k2,k3,k4,k5,k6,k7,k8,k9,AD,yU,AE,AF,AG,AH⟩:=dS (N0.out.kept aH (by simp));clear aH k0 k2 k5 k6 k7 k8 k9 AD yU AE AF AG AH;have hz:=dN.out.size;go_wp2;go_ret;rw[HR.out];exact⟨⟨w1.heap.size,rfl,aZ.sO (by omega) rfl (by unfold maxLen;simp) (aj.bA w1 3 _)⟩,aC dN.out (aQ _ _ _)⟩
 | false=>
  have Hw:=ae hw
  cases h2:M.dr o.af with
  | true=>
   have HR:=ae (Yy hw h2);have H2:=ae h2;clear hw h2;go_enter func106,ntmps106;go_wp2_with (refine dj rfl 142 _ rfl w.heap.size rfl 142 (oo o (.slice ao p c)) (0,0) _ N0.out underlying142 rfl Tryz.de ?_);refine(yI o (.slice ao p c) false _ Hw.out).mono ?_;rintro e w1⟨rfl,aH⟩;have dN:=ae (aC rV.out aH);have N1:=ae (N0.out.kept aH (by simp));clear aH;go_wp2_with (refine dj rfl 142 _ rfl w.heap.size rfl 142 (oo o (.slice ao p c)) (0,0) _ N1.out underlying142 rfl Tryz.de ?_);refine(BO o (.slice ao p c) true _ H2.out).mono ?_;rintro e w2⟨rfl,aM⟩;have dU:=ae (aC dN.out aM);obtain⟨k0,k1,k2,k3,k4,k5,k6,k7,k8,k9,AD,yU,AE,AF,AG,AH⟩:=dS (N1.out.kept aM (by simp));clear aM k0 k3 k4 k5 k6 k7 k8 k9 AD yU AE AF AG AH;have hz:=dU.out.size;go_wp2;go_ret;rw[HR.out];exact⟨⟨w2.heap.size,rfl,aZ.sO (by omega) rfl (by unfold maxLen;simp) (aj.bA w2 3 _)⟩,aC dU.out (aQ _ _ _)⟩
  | false=>
   have HR:=ae (Yz hw h2);have H2:=ae h2;clear hw h2;go_enter func106,ntmps106;go_wp2_with (refine dj rfl 142 _ rfl w.heap.size rfl 142 (oo o (.slice ao p c)) (0,0) _ N0.out underlying142 rfl Tryz.de ?_);refine(yI o (.slice ao p c) false _ Hw.out).mono ?_;rintro e w1⟨rfl,aH⟩;have dN:=ae (aC rV.out aH);have N1:=ae (N0.out.kept aH (by simp));clear aH;go_wp2_with (refine dj rfl 142 _ rfl w.heap.size rfl 142 (oo o (.slice ao p c)) (0,0) _ N1.out underlying142 rfl Tryz.de ?_);refine(BO o (.slice ao p c) false _ H2.out).mono ?_;rintro e w2⟨rfl,aM⟩;have dU:=ae (aC dN.out aM);obtain⟨k0,k1,k2,k3,k4,k5,k6,k7,k8,k9,AD,yU,AE,AF,AG,AH⟩:=dS (N1.out.kept aM (by simp));clear aM k0 k2 k3 k4 k5 k6 k7 k8 k9 AD yU AE AF AG AH;have hz:=dU.out.size;go_wp2;go_ret;rw[HR.out];exact⟨⟨w2.heap.size,rfl,aZ.sO (by omega) rfl (by unfold maxLen;simp) (aj.bA w2 3 _)⟩,aC dU.out (aQ _ _ _)⟩
theorem Jp(o:M.Op):(H.cM o).length<=3:=by
 cases hw:M.cm o.af with
 | true=>rw[Yx hw];simp
 | false=>cases h2:M.dr o.af with
  | true=>rw[Yy hw h2];simp
  | false=>rw[Yz hw h2];simp
theorem alU{os:List M.Op}{k:Nat}{o:M.Op}(h:os[k]?=some o)(n:Int):H.iQ (os.take (k+1)) n=H.iQ (os.take k) n+(H.cM o).count n:=by
 rw[H.kd h];unfold H.iQ;simp[List.flatMap_append,List.count_append]
theorem YA(n:Int):∀os:List M.Op,H.iQ os n<=3*os.length
 | []=>by simp[H.iQ]
 | o::os=>by
  have:=YA n os;have h1:=List.count_le_length (a:=n) (l:=H.cM o);have h2:=Jp o;unfold H.iQ at *;simp only[List.flatMap_cons,List.count_append,pN];omega
theorem YB{l:List Int}{j:Nat}{x n:Int}(h:l[j]?=some x)(e:x=n):(l.take (j+1)).count n=(l.take j).count n+1:=by
 rw[H.kd h,List.count_append];simp[e]
theorem YC{l:List Int}{j:Nat}{x n:Int}(h:l[j]?=some x)(e:x≠n):(l.take (j+1)).count n=(l.take j).count n:=by
 rw[H.kd h,List.count_append];simp[e]
theorem YD(l:List Int)(j:Nat)(n:Int):(l.take j).count n<=l.length:=jN List.count_le_length (by simp;omega)
theorem RQ(m:Nat)(md:M.Md)(n:Int)(w:World)(h:cN w m md)(iq:md.ag.length<=255)(kl:md.aK.length<=255) :
  Calls prog 144 #[.pointer (some ⟨m,0,none⟩),.int .i64 n] w fun e w'=>e=.returned (.int .i64 (H.cJ md n))/\w.grownBy w' none:=by
 obtain⟨a1,c1,a2,c2,a3,c3,hB,hT,hO,hU⟩:=h;have q1:w.cell? ⟨m,1,none⟩=some (.slice a2 md.ag.length c2):=hB.cell 1;have Q2:Hid (w.cell? ⟨m,2,none⟩=some (.slice a3 md.aK.length c3)):=hB.cell 2;clear hT hB;go_enter func144,ntmps144;go_wp2;clear q1;go_loopw[5,17] (fun s i wr=>∃k:Nat,k<=md.ag.length/\i=.int .i64 k/\s=.int .i64 (H.iQ (md.ag.take k) n)/\w.grownBy wr none) (fun _ i _=>md.ag.length-(intOf i).toNat)
 case atStart=>exact⟨0,bK _,rfl,rfl,fZ _ _⟩
 case round=>
  obtain⟨k,hk,rfl,rfl,aF⟩:=hrel;have hs:=YA n (md.ag.take k);rw[xE] at hs;by_cases aJ:k<md.ag.length
  ·obtain⟨o,ho⟩:∃o,md.ag[k]?=some o:=⟨_,aS aJ⟩
   obtain⟨g,ao,p,cp,rfl,gQ,-,-,hR⟩:=(hO.Z aF).get k o ho;have HS:=ae (alU ho n);have HB:=ae (aj.bA wr 142 (aO o (.slice ao p cp)));have HG:=ae (aC aF (aQ wr (.cells (aO o (.slice ao p cp)) 142) none));have HL:=ae (Jp o);clear ho hO;generalize H.iQ (md.ag.take k) n=s at *;go_wp2_with (first|(refine wpList_load_mid rfl 142 _ rfl g (k*16) rfl (aO o (.slice ao p cp)).toList _ hR underlying142 rfl Tryz.de ?_)|(refine aaY rfl 142 _ _ rfl wr.heap.size (aO o (.slice ao p cp)) rfl rfl 142 (aR 0 0 0 0 0 0 0 0 false (.slice none 0 0) 0 0 0 0 0 0) (aj.bA wr 142 _) Tryz.de rfl (oe ..) ?_;rw[World.setRow_alloc_new])|(refine dj rfl 142 _ rfl wr.heap.size rfl 142 (aO o (.slice ao p cp)) (0,0) _ HB.out underlying142 rfl Tryz.de ?_));refine(Nv o ao p cp _).mono ?_;rintro e w3⟨⟨g3,rfl,lh⟩,aU⟩;have fR:=ae (aC HG.out aU);have mr:=ae lh;generalize H.cM o=L at *;have hL:=HL.out;clear aU lh hR aF HB;go_wp2;go_loopw[5,24] (fun s' i wq=>∃j:Nat,j<=L.length/\i=.int .i64 j/\s'=.int .i64 ((s+(L.take j).count n:Nat):Int)/\wq=w3) (fun _ i _=>L.length-(intOf i).toNat)
   case atStart=>exact⟨0,bK _,rfl,by simp,rfl⟩
   case round=>
    obtain⟨j,hj,rfl,rfl,rfl⟩:=hrel;have kz:=YD L j n;by_cases AK:j<L.length
    ·obtain⟨x,hx⟩:∃x,L[j]?=some x:=⟨_,aS AK⟩
     obtain⟨g',fS,-,-,d0⟩:=mr.out.get j x hx;injection fS with fS;injection fS with fS _ _;subst fS;by_cases uC:x=n
     ·have HC:=ae (YB hx uC)
      have Jq:(x==n)=true:=by simp[uC]
      clear hx uC;generalize (L.take j).count n=c at *;go_wp2;go_roundw
      case rel=>exact⟨j+1,by omega,by go_num,by rw[HC.out];go_num,by trivial⟩
      case measure=>simp[intOf];omega
     ·have HC:=ae (YC hx uC)
      have Jq:(x==n)=false:=by simp[uC]
      clear hx uC;generalize (L.take j).count n=c at *;go_wp2;go_roundw
      case rel=>exact⟨j+1,by omega,by go_num,by rw[HC.out],by trivial⟩
      case measure=>simp[intOf];omega
    ·obtain rfl:j=L.length:=by omega
     rw[jm];rw[jm] at kz;go_wp2;go_roundw
     case rel=>exact⟨k+1,by omega,by go_num,by rw[HS.out],fR.out⟩
     case measure=>simp[intOf];omega
  ·obtain rfl:k=md.ag.length:=by omega
   rw[jm] at hs ⊢;have q2:wr.cell? ⟨m,2,none⟩=some (.slice a3 md.aK.length c3):=aG aF Q2.out;have hU':=hU.Z aF;have bH:=ae aF;have HE:Hid (H.cJ md n=H.iQ md.ag n+md.aK.count n):=rfl;clear hO hU aF;generalize H.iQ md.ag n=s at *;go_wp2;clear q2;go_loopw[5,40] (fun s' i wq=>∃j:Nat,j<=md.aK.length/\i=.int .i64 j/\s'=.int .i64 ((s+(md.aK.take j).count n:Nat):Int)/\wq=wr) (fun _ i _=>md.aK.length-(intOf i).toNat)
   case atStart=>exact⟨0,bK _,rfl,by simp,rfl⟩
   case round=>
    obtain⟨j,hj,rfl,rfl,rfl⟩:=hrel;have kz:=YD md.aK j n;by_cases AK:j<md.aK.length
    ·obtain⟨x,hx⟩:∃x,md.aK[j]?=some x:=⟨_,aS AK⟩
     obtain⟨g',rfl,-,-,d0⟩:=hU'.get j x hx;by_cases uC:x=n
     ·have HC:=ae (YB hx uC)
      have Jq:(x==n)=true:=by simp[uC]
      clear hx uC;generalize (md.aK.take j).count n=c at *;go_wp2;go_roundw
      case rel=>exact⟨j+1,by omega,by go_num,by rw[HC.out];go_num,by trivial⟩
      case measure=>simp[intOf];omega
     ·have HC:=ae (YC hx uC)
      have Jq:(x==n)=false:=by simp[uC]
      clear hx uC;generalize (md.aK.take j).count n=c at *;go_wp2;go_roundw
      case rel=>exact⟨j+1,by omega,by go_num,by rw[HC.out],by trivial⟩
      case measure=>simp[intOf];omega
    ·obtain rfl:j=md.aK.length:=by omega
     rw[jm];go_wp2;go_ret;exact⟨cH (by rw[HE.out]),bH.out⟩
namespace H
def fF(m:M.Md)(k:Nat):M.Md×List M.Op:=(m.ag.take k).foldl nK (m,[])
theorem Nw{m:M.Md}{k:Nat}{o:M.Op}(h:m.ag[k]?=some o):fF m (k+1)=nK (fF m k) o:=by
 unfold fF;rw[kd h,List.foldl_append];rfl
theorem alW(m:M.Md):fF m m.ag.length=m.ag.foldl nK (m,[]):=by unfold fF;rw[jm]
theorem YE(m:M.Md):iR m={ (fF m m.ag.length).1 with ag:=(fF m m.ag.length).2 }:=by rw[alW];rfl
theorem Jr(m:M.Md):∀k,k<=m.ag.length->(fF m k).1.ag=m.ag/\(fF m k).1.aK=m.aK/\(fF m k).1.au.length=m.au.length/\(fF m k).2.length<=k
 | 0,_=>⟨rfl,rfl,rfl,bj _⟩
 | k+1,hk=>by
  obtain⟨h1,h2,h3,h4⟩:=Jr m k (by omega);rw[Nw (aS (by omega))];unfold nK
  split
  ·exact⟨h1,h2,by unfold oX;simp[h3],by simp;omega⟩
  ·exact⟨h1,h2,h3,by simp;omega⟩
theorem YF{m:M.Md}{C:List (List Int)}(s:dH m C):∀k,k<=m.ag.length->dH (wo (fF m k).1 ((fF m k).2++m.ag.drop k)) C
 | 0,_=>s
 | k+1,hk=>by
  have ih:=YF s k (by omega);have hx:m.ag[k]?=some m.ag[k]:=aS (by omega);rw[Nw hx];rw[<-List.getElem_cons_drop (by omega:k<m.ag.length)] at ih;generalize m.ag[k]=o at *;unfold nK;by_cases rL:rP (fF m k).1 o=true
  ·rw[ay rL]
   obtain⟨e,s'⟩:=ih.MW (l:=(fF m k).2) (r:=m.ag.drop (k+1)) (o:=o) rfl rL;have e':O.iu (fF m k).1 o (M.aq (fF m k).1 o.a).data (M.aq (fF m k).1 o.b).data=D.bW C o.to:=e;rw[e'];exact s'
  ·rw[ak rL]
   show dH (wo (fF m k).1 ((fF m k).2++[o]++m.ag.drop (k+1))) C;rw[j8];exact ih
theorem alX{m:M.Md}{C:List (List Int)}(s:dH m C){o:M.Op}(ho:o∈m.ag)(hk:rP m o=true):O.jQ m o (M.aq m o.a).data (M.aq m o.b).data:=by
 have kn:∀n∈cM o,(M.aq m n).af≠0/\(M.aq m n).af≠3:=by
  intro n hn;have:=List.all_eq_true.mp hk n hn;unfold pF at this
  simpa using this
 have k1:∀n∈cM o,(M.aq m n).af≠2->(M.aq m n).af=1:=by
  intro n hn h2;have a:=s.av ho hn;have:=kn n hn;have:=s.Cg n a.1 a.2.1;omega
 have n2:=s.Aw o ho;have F:=s.fi o ho;have da:=s.data o.a (tf.mpr (.inl ⟨o,ho,vL o⟩)) (k1 _ (vL o) n2.1);rw[da] at F
 cases h2:M.dr o.af with
 | false=>exact Re F h2
 | true=>
  have hb:=Rf h2 (Rg h2);rw[s.data o.b (tf.mpr (.inl ⟨o,ho,hb⟩)) (k1 _ hb (n2.2 h2))] at F;exact F
theorem alY{m:M.Md}{C:List (List Int)}(s:dH m C){k:Nat}{o:M.Op}(h:m.ag[k]?=some o)(hk:rP (fF m k).1 o=true) :
  O.jQ (fF m k).1 o (M.aq (fF m k).1 o.a).data (M.aq (fF m k).1 o.b).data:=by
 have hl:=M.bP h;have S:=YF s k (by omega);have ho:o∈(wo (fF m k).1 ((fF m k).2++m.ag.drop k)).ag:=by
  show o∈_++_;refine List.mem_append_right _ (bU (i:=0) ?_);rw[List.getElem?_drop];exact h
 have F:=alX S ho hk;exact⟨F.dQ,F.bT,F.ur,F.z,F.a,F.na,F.ca,F.b,F.nb,F.cb,F.w,F.lw,F.cw,F.bi,F.li,F.ci⟩
def YG(m:M.Md):List (List Int):=(D.BZ m).map fun n=>List.replicate n.toNat 0
theorem alZ{m:M.Md}(h:O.iP m):D.jP m (YG m)=true:=by
 unfold D.jP YG;rw[eX,beq_iff_eq,jn]
 constructor
 ·rw[List.map_map]
  conv=>rhs;rw[<-List.map_id (D.BZ m)]
  apply List.map_congr_left
  intro n hn;unfold D.BZ at hn;obtain⟨t,ht,rfl⟩:=List.mem_map.mp hn;have d:=h.kQ t (List.mem_filter.mp ht).1;have:0<=M.cellsOf t:=by
   unfold M.cellsOf;exact lg (lg (by have:=d.h0;omega) (by have:=d.w0;omega)) (by have:=d.c0;omega)
  show((List.replicate _ (0:Int)).length:Int)=M.cellsOf t;rw[vT];omega
 ·intro l hl
  obtain⟨n,-,rfl⟩:=List.mem_map.mp hl;rw[jn];intro v hv;rw[List.mem_replicate] at hv;rw[hv.2];decide
theorem Nx{m:M.Md}(h:O.iP m):∃C,dH m C:=⟨_,M7 h (alZ h)⟩
theorem YH(m:M.Md)(i:Nat):m.ag.length-1<=(kF m i).ag.length/\(kF m i).ag.length<=m.ag.length:=by
 unfold kF
 cases h:m.ag[i]? with
 | none=>exact⟨by show _<=m.ag.length;omega,bj _⟩
 | some o=>
  show _<=(if cJ m o.to=0 then { m with ag:=m.ag.eraseIdx i } else m:M.Md).ag.length/\(if cJ m o.to=0 then { m with ag:=m.ag.eraseIdx i } else m:M.Md).ag.length<=_;have:=M.bP h
  split
  ·show _<=(m.ag.eraseIdx i).length/\(m.ag.eraseIdx i).length<=_
   rw[List.length_eraseIdx,ay this];omega
  ·omega
theorem YI{m:M.Md}{i:Nat}{o:M.Op}(h:m.ag[i]?=some o)(hu:cJ m o.to=0):kF m i=wo m (m.ag.eraseIdx i):=by unfold kF;rw[h];show(if _ then _ else _)=_;rw[ay hu];rfl
theorem YJ{m:M.Md}{i:Nat}{o:M.Op}(h:m.ag[i]?=some o)(hu:cJ m o.to≠0):kF m i=m:=by unfold kF;rw[h];show(if _ then _ else _)=_;rw[ak hu]
def pO(m:M.Md)(k:Nat):List M.Op:=(m.ag.take k).foldl (joinStep m) []
theorem RR{m:M.Md}{k:Nat}{o:M.Op}(h:m.ag[k]?=some o):pO m (k+1)=joinStep m (pO m k) o:=by
 unfold pO;rw[kd h,List.foldl_append];rfl
theorem RT(m:M.Md):∀k,k<=m.ag.length->(pO m k).length<=k
 | 0,_=>bj _
 | k+1,hk=>by
  have:=RT m k (by omega);rw[RR (aS (by omega))];unfold joinStep
  split
  ·rw[List.length_modify];omega
  ·simp;omega
theorem YK(m:M.Md):oY m=wo m (pO m m.ag.length):=by unfold pO;rw[jm];rfl
def qw(m:M.Md)(k:Nat):List M.Tn:=m.au.mapIdx fun n t=>if n<k then Au m n t else t
theorem al0(m:M.Md):qw m 0=m.au:=by
 unfold qw
 apply nM
 intro i;rw[List.getElem?_mapIdx];simp
theorem al3(m:M.Md):{ m with au:=qw m m.au.length }=mP m:=by
 unfold mP qw
 congr 1
 apply nM
 intro i;rw[List.getElem?_mapIdx,List.getElem?_mapIdx]
 cases h:m.au[i]? with
 | none=>rfl
 | some t=>simp only[Option.map_some];rw[ay (M.bP h)]
theorem YL{m:M.Md}{k:Nat}{t:M.Tn}(h:m.au[k]?=some t):(qw m k)[k]?=some t:=by
 unfold qw;rw[List.getElem?_mapIdx,h];simp
theorem al4{m:M.Md}{k:Nat}{t:M.Tn}(h:m.au[k]?=some t)(hu:cJ m k=0):qw m (k+1)=(qw m k).set k { t with data:=[] }:=by
 apply nM
 intro i;unfold qw;rw[ox,List.getElem?_mapIdx,List.getElem?_mapIdx,List.length_mapIdx];by_cases e:k=i
 ·subst e
  rw[ay rfl,ay (M.bP h),h];simp[Au,hu]
 ·rw[ak e]
  cases hi:m.au[i]? with
  | none=>rfl
  | some u=>
   simp only[Option.map_some];by_cases c:i<k
   ·rw[ay c,ay (by omega)]
   ·rw[ak c,ak (by omega)]
theorem al5{m:M.Md}{k:Nat}(hu:cJ m k≠0):qw m (k+1)=qw m k:=by
 apply nM
 intro i;unfold qw;rw[List.getElem?_mapIdx,List.getElem?_mapIdx]
 cases hi:m.au[i]? with
 | none=>rfl
 | some u=>
  simp only[Option.map_some];by_cases c:i<k
  ·rw[ay c,ay (by omega)]
  ·by_cases c2:i=k
   ·subst c2
    rw[ay (by omega),ak c];unfold Au;rw[ak hu]
   ·rw[ak c,ak (by omega)]
end H
theorem ir.put{w:World}{base g n c:Nat}{ts:List M.Tn}{i:Nat}{t t':M.Tn}(h:ir w base (.slice (some ⟨g,0,none⟩) n c) ts)(hi:ts[i]?=some t)(j:Nat)(hj:j<6)(u:Value)(f:Value->Value)(hv:∀dv,(bg t dv).toList.set j u=(bg t' (f dv)).toList)
  (hd:∀dv,aZ w base dv t.data->aZ w base (f dv) t'.data):ir (w.setCell ⟨g,i*6+j,none⟩ u) base (.slice (some ⟨g,0,none⟩) n c) (ts.set i t'):=by
 obtain⟨ps,h1,h2,h3⟩:=h;have hl:i<ts.length:=M.bP hi;obtain⟨g',dY,e,-,-,hB,-⟩:=xH h2 (by omega);simp only[kj,oP,and_true] at e;subst e;subst h1;rw[dV] at hi;obtain⟨p,hp,rfl⟩:=Option.map_eq_some_iff.1 hi;have ap:∀v l,aZ w base v l->aZ (w.setCell ⟨g,i*6+j,none⟩ u) base v l:=fun v l hI=>pL hI hB (by decide) (bD _ _ _ _);refine⟨ps.set i (t',f p.2),by rw[List.map_set],?_,fun q hq=>?_⟩
 ·have h4:=Eg h2 (i*6+j) u
  rw[vS (fun p:M.Tn×Value=>(bg p.1 p.2).toList) 6 (fun _=>rfl) ps i j p (t',f p.2) u hp hj (hv p.2)] at h4
  simpa using h4
 ·rcases Yw hq with hq|rfl
  ·exact ap _ _ (h3 q hq)
  ·exact ap _ _ (hd _ (h3 p (bU hp)))
theorem al6{m:M.Md}{L:List Int}{j:Nat}{x:Int}(hx:L[j]?=some x)(h:(L.take j).all (fun n=>H.pF (M.aq m n))=true)(hk:H.pF (M.aq m x)=true):(L.take (j+1)).all (fun n=>H.pF (M.aq m n))=true:=by
 rw[H.kd hx,List.all_append,h];simp[hk]
theorem al7{m:M.Md}{L:List Int}{j:Nat}{x:Int}(hx:L[j]?=some x)(hk:H.pF (M.aq m x)=false):L.all (fun n=>H.pF (M.aq m n))=false:=by
 rw[List.all_eq_false];exact⟨x,bU hx,by rw[hk];decide⟩
theorem al8(m:Nat)(md:M.Md)(o:M.Op)(ao:Option Addr)(p c:Nat)(w:World)(h:cN w m md)(iq:md.au.length<=255) :
  Calls prog 143 #[.pointer (some ⟨m,0,none⟩),.agg (aO o (.slice ao p c))] w fun e w'=>e=.returned (.bool (H.rP md o))/\w.grownBy w' none:=by
 have HM:=ae h;have N0:=ae (aj.bA w 142 (oo o (.slice ao p c)));have G0:=ae (aQ w (.cells (oo o (.slice ao p c)) 142) none);have HL:=ae (Jp o);have HE:Hid (H.rP md o=(H.cM o).all fun n=>H.pF (M.aq md n)):=rfl;clear h;show Calls prog 143 #[.pointer (some ⟨m,0,none⟩),.agg (oo o (.slice ao p c))] w _;go_enter func143,ntmps143;go_wp2_with (refine dj rfl 142 _ rfl w.heap.size rfl 142 (oo o (.slice ao p c)) (0,0) _ N0.out underlying142 rfl Tryz.de ?_);refine(Nv o ao p c _).mono ?_;rintro e w3⟨⟨g3,rfl,lh⟩,aU⟩;have fR:=ae (aC G0.out aU);have mr:=ae lh;generalize H.cM o=L at *;have hL:=HL.out;clear aU lh N0 G0;go_wp2;go_loopw[11] (fun i wr=>∃j:Nat,j<=L.length/\i=.int .i64 j/\(L.take j).all (fun n=>H.pF (M.aq md n))=true/\w3.grownBy wr none) (fun i _=>L.length-(intOf i).toNat)
 case atStart=>exact⟨0,bK _,rfl,by simp,fZ _ _⟩
 case round=>
  obtain⟨j,hj,rfl,kL,bO⟩:=hrel;have jY:=ae kL;have cV:=ae (aC fR.out bO);clear kL;by_cases AK:j<L.length
  ·obtain⟨x,hx⟩:∃x,L[j]?=some x:=⟨_,aS AK⟩
   obtain⟨g',fS,-,-,d0⟩:=(mr.out.Z bO).get j x hx;injection fS with fS;injection fS with fS _ _;subst fS;have oD:=ae fun hk=>al7 (m:=md) hx hk;have fm:=ae fun hk=>al6 hx jY.out hk;have HGG:=ae bO;clear hx bO;go_wp2_with fail;refine(iW m md x _ (HM.out.Z cV.out) iq).mono ?_;rintro e w5⟨t,ht,⟨aa,pp,cc,rfl⟩,cK⟩;rw[ht.out] at oD fm;have iC:=ae (aC HGG.out cK);have kI:=ae (aC cV.out cK);have lA:=ae (aC iC.out (aQ w5 (.cells #[.int .i64 t.af,.int .i64 t.h,.int .i64 t.w,.int .i64 t.c,.int .i64 t.zero,.slice aa pp cc] 158) none));have fD:=ae (aC kI.out (aQ w5 (.cells #[.int .i64 t.af,.int .i64 t.h,.int .i64 t.w,.int .i64 t.c,.int .i64 t.zero,.slice aa pp cc] 158) none));clear cK d0
   cases k0:(t.af==0) with
   | true=>
    have He:=ae (oD.out (show H.pF t=false by unfold H.pF;rw[k0];rfl));go_wp2;go_ret;exact⟨bB (by rw[HE.out,He.out]),fD.out⟩
   | false=>
    cases k3:(t.af==3) with
    | true=>
     have He:=ae (oD.out (show H.pF t=false by unfold H.pF;rw[k0,k3];rfl));go_wp2;go_ret;exact⟨bB (by rw[HE.out,He.out]),fD.out⟩
    | false=>
     have He:=ae (fm.out (show H.pF t=true by unfold H.pF;rw[k0,k3];rfl));go_wp2;go_roundw
     case rel=>exact⟨j+1,by omega,by go_num,He.out,lA.out⟩
     case measure=>simp[intOf];omega
  ·obtain rfl:j=L.length:=by omega
   have He:=ae (show L.all (fun n=>H.pF (M.aq md n))=true by have:=jY.out;rwa [jm] at this);go_wp2;go_ret;exact⟨bB (by rw[HE.out,He.out]),cV.out⟩
end Go.Proofs.YtcnhfffgbamonaaGreat
