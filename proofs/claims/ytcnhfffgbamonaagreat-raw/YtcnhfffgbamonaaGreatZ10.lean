import Derived.Test.YtcnhfffgbamonaaGreatZ09
set_option maxRecDepth 100000
set_option maxHeartbeats 6400000
namespace Go.Proofs.YtcnhfffgbamonaaGreat
open Go.Proofs.Tryz
namespace O
structure uo(t:M.Tn):Prop where
 h0:1<=t.h
 h1:t.h<=255
 w0:1<=t.w
 w1:t.w<=255
 c0:1<=t.c
 c1:t.c<=255
 mn:M.cellsOf t<=512
 z0:-128<=t.zero
 z1:t.zero<=127
theorem akj{t:M.Tn}(hf:yN t)(h:M.vu t=true):uo t:=by
 unfold M.vu at h;simp only[Bool.not_eq_true',Bool.or_eq_false_iff,decide_eq_false_iff_not] at h;unfold M.cellsOf at h;have h0:t.h≠0:=by intro e;rw[e] at h;simp at h
 have w0:t.w≠0:=by intro e;rw[e] at h;simp at h
 have c0:t.c≠0:=by intro e;rw[e] at h;simp at h
 have a:=hf.h0;have b:=hf.w0;have c:=hf.c0;exact⟨by omega,hf.h1,by omega,hf.w1,by omega,hf.c1,by unfold M.cellsOf;omega,hf.z0,hf.z1⟩
structure jQ(m:M.Md)(o:M.Op)(la lb:List Int):Prop where
 dQ:kN o
 bT:M.bT m o=true
 ur:M.kB m o=true
 z:uo (M.aq m o.to)
 a:uo (M.aq m o.a)
 na:(la.length:Int)=M.cellsOf (M.aq m o.a)
 ca:D.kq la
 b:M.dr o.af=true->uo (M.aq m o.b)
 nb:M.dr o.af=true->(lb.length:Int)=M.cellsOf (M.aq m o.b)
 cb:M.dr o.af=true->D.kq lb
 w:M.cm o.af=true->uo (M.aq m o.aP)
 lw:M.cm o.af=true->((M.aq m o.aP).data.length:Int)=M.cellsOf (M.aq m o.aP)
 cw:M.cm o.af=true->D.kq (M.aq m o.aP).data
 bi:M.cm o.af=true->uo (M.aq m o.bC)
 li:M.cm o.af=true->((M.aq m o.bC).data.length:Int)=M.cellsOf (M.aq m o.bC)
 ci:M.cm o.af=true->∀v∈(M.aq m o.bC).data,-1073741824<=v/\v<=1073741824
def dd(m:M.Md)(o:M.Op)(la lb:List Int):D.gH:=
 ⟨M.aq m o.a,la,M.aq m o.b,lb,M.aq m o.aP,(M.aq m o.aP).data,(M.aq m o.bC).data,M.aq m o.to⟩
theorem QY{m:M.Md}{o:M.Op}{la lb:List Int}{x:Int}{k:Nat}(h:k<o.bM.length):out (start m o la lb) x k=D.ug o (dd m o la lb) x k:=by
 unfold out uk D.ug;rw[QX (j:=start m o la lb) h]
 rfl
theorem IQ{n length s:Int}{same:Bool}(h:1<=M.dP n length s same):1<=s/\1<=n/\(same=false->n<=length):=by
 unfold M.dP at h;by_cases c:s<1\/n<1
 ·rw[ay c] at h;omega
 ·rw[ak c] at h
  refine⟨by omega,by omega,fun hs=>?_⟩;rw[ak (by rw[hs];decide)] at h;by_cases d:length<n
  ·rw[ay d] at h;omega
  ·omega
theorem Xw(j:J)(u v o shift first:Int)(n i:Nat):part j u v o shift first n i 0 0=jZ j.bC o+D.S (fun i=>D.S (fun p=>D.S (iO j u v shift first i p) n) j.aP.w.toNat) i:=by
 unfold part;simp[D.S]
theorem DY(t:M.Tn)(n:Int):M.isRow t n=true↔t.h=1/\t.w=1/\t.c=n:=by
 unfold M.isRow;simp[and_assoc]
theorem QZ{k c n z:Int}(hk:0<=k)(hkz:k<z)(hn:0<=n)(FC:n<c):0<=k*c+n/\k*c+n<c*z:=by
 have h1:0<=k*c:=lg hk (by omega);have h2:(k+1)*c<=z*c:=Int.mul_le_mul_of_nonneg_right (by omega) (by omega);rw[Int.add_mul,Int.one_mul] at h2;rw[Int.mul_comm c z];omega
theorem Q3{o:M.Op}{a w b z:M.Tn}(h:M.qe o a w b z=true):z.h=M.dP w.h a.h o.aE o.same/\z.w=M.dP w.w a.w o.aE o.same/\M.isRow b z.c=true/\(o.af=2->w.c=a.c/\z.c=a.c)/\(o.af≠2->w.c=a.c*z.c):=by
 unfold M.qe at h;by_cases c:z.h≠M.dP w.h a.h o.aE o.same\/z.w≠M.dP w.w a.w o.aE o.same\/M.isRow b z.c=false
 ·rw[ay c] at h;exact Bool.noConfusion h
 ·rw[ak c] at h
  have c1:z.h=M.dP w.h a.h o.aE o.same:=Decidable.byContradiction fun q=>c (.inl q);have c2:z.w=M.dP w.w a.w o.aE o.same:=Decidable.byContradiction fun q=>c (.inr (.inl q));have c3:M.isRow b z.c=true:=by
   cases e:M.isRow b z.c with
   | true=>rfl
   | false=>exact aN (.inr (.inr e)) c
  refine⟨c1,c2,c3,fun k=>?_,fun k=>?_⟩
  ·rw[ay k] at h;simpa using h
  ·rw[ak k] at h;simpa using h
theorem Q4{m:M.Md}{o:M.Op}(h:M.bT m o=true)(hk:o.af=1\/o.af=2):M.qe o (M.aq m o.a) (M.aq m o.aP) (M.aq m o.bC) (M.aq m o.to)=true:=by
 unfold M.bT at h;simp only[ay hk] at h;exact h
theorem Xx{m:M.Md}{o:M.Op}{la lb:List Int}(F:jQ m o la lb)(hk:o.af=1\/o.af=2){y x k:Int}(k0:0<=k)(k1:k<(M.aq m o.to).c) :
  Ar (start m o la lb) y x k (if o.af=1 then 0 else k) (if o.af=1 then (M.aq m o.a).c else k+1) (if o.af=1 then k*(M.aq m o.a).c else 0)=D.uf o (dd m o la lb) y x k:=by
 have hW:M.cm o.af=true:=by rw[ku];omega
 obtain⟨s1,s2,s3,s4,s5⟩:=Q3 (Q4 F.bT hk);obtain⟨b1,b2,b3⟩:=(DY _ _).mp s3;have ew:(start m o la lb).aP=fg (M.aq m o.aP) (M.aq m o.aP).data:=ay hW;have eb:(start m o la lb).bC=fg (M.aq m o.bC) (M.aq m o.bC).data:=ay hW;have ea:(start m o la lb).a=fg (M.aq m o.a) la:=rfl;have lw:=F.lw hW;have li:=F.li hW;have p1:=IQ (same:=o.same) (show 1<=M.dP (M.aq m o.aP).h (M.aq m o.a).h o.aE o.same by rw[<-s1];exact F.z.h0);have p2:=IQ (same:=o.same) (show 1<=M.dP (M.aq m o.aP).w (M.aq m o.a).w o.aE o.same by rw[<-s2];exact F.z.w0);have e1:um (start m o la lb) y=y*o.aE-D.kM (M.aq m o.a).h (M.aq m o.aP).h o.aE o.same:=by
  unfold um;rw[ew,ea];show iZ y (M.aq m o.to).h _ _ o.aE=_;rw[s1];exact Xu p1.1 p1.2.1 p1.2.2
 have e2:left (start m o la lb) x=x*o.aE-D.kM (M.aq m o.a).w (M.aq m o.aP).w o.aE o.same:=by
  unfold left;rw[ew,ea];show iZ x (M.aq m o.to).w _ _ o.aE=_;rw[s2];exact Xu p2.1 p2.2.1 p2.2.2
 unfold Ar;rw[Xw,e1,e2,eb,ew];unfold D.uf;have eB:jZ (fg (M.aq m o.bC) (M.aq m o.bC).data) k=D.get (dd m o la lb).mM k:=by
  refine MM (g:=fg (M.aq m o.bC) (M.aq m o.bC).data) k0 ?_;show k<((M.aq m o.bC).data.length:Int);rw[li];unfold M.cellsOf;rw[b1,b2,b3];omega
 rw[eB]
 congr 1
 refine D.FA fun i hi=>D.FA fun p hp=>?_;have mO:(i:Int)<(M.aq m o.aP).h:=by have:i<(M.aq m o.aP).h.toNat:=hi;omega
 have iJ:(p:Int)<(M.aq m o.aP).w:=by have:p<(M.aq m o.aP).w.toNat:=hp;omega
 show D.S (iO (start m o la lb) (y*o.aE-D.kM (M.aq m o.a).h (M.aq m o.aP).h o.aE o.same) (x*o.aE-D.kM (M.aq m o.a).w (M.aq m o.aP).w o.aE o.same) _ _ i p) _ =
  D.xy o (dd m o la lb) (y*o.aE-D.kM (M.aq m o.a).h (M.aq m o.aP).h o.aE o.same+i) (x*o.aE-D.kM (M.aq m o.a).w (M.aq m o.aP).w o.aE o.same+p) k i p
 generalize hu:y*o.aE-D.kM (M.aq m o.a).h (M.aq m o.aP).h o.aE o.same=u;generalize hv:x*o.aE-D.kM (M.aq m o.a).w (M.aq m o.aP).w o.aE o.same=v;have T:∀first shift:Int,∀q:Nat,0<=first+q->first+q<(M.aq m o.a).c->0<=shift+(first+q)->shift+(first+q)<(M.aq m o.aP).c ->
   iO (start m o la lb) u v shift first i p q=if D.oq (M.aq m o.a) (u+i) (v+p)=true then (D.bN (M.aq m o.a) la (u+i) (v+p) (first+q)-(M.aq m o.a).zero)*D.bN (M.aq m o.aP) (M.aq m o.aP).data i p (shift+(first+q)) else 0:=by
  intro first shift q c0 c1 d0 d1;unfold iO;rw[ea,ew,Xv F.na c0 c1,yQ lw (by omega) mO (by omega) iJ d0 d1];show(_-(M.aq m o.a).zero)*_=_
  split
  ·rfl
  ·rw[Int.sub_self,Int.zero_mul]
 show D.S (iO (start m o la lb) u v _ _ i p) _=D.xy o (dd m o la lb) (u+i) (v+p) k i p;unfold D.xy;show _=if D.oq (M.aq m o.a) (u+i) (v+p)=true then _ else 0;rcases hk with hk|hk
 ·have n2:¬o.af=2:=by omega
  simp only[ay hk,ak n2];rw[Int.sub_zero];have wc:=s5 n2;by_cases cY:D.oq (M.aq m o.a) (u+i) (v+p)=true
  ·rw[ay cY]
   refine D.FA fun q hq=>?_;have:=QZ (n:=(q:Int)) (c:=(M.aq m o.a).c) k0 k1 (by omega) (by omega);rw[T 0 (k*(M.aq m o.a).c) q (by omega) (by omega) (by omega) (by rw[wc];omega),ay cY];simp only[Int.zero_add]
   rfl
  ·rw[ak cY]
   refine Eq.trans (D.FA (g:=fun _=>0) fun q hq=>?_) (D.aj0 _);have:=QZ (n:=(q:Int)) (c:=(M.aq m o.a).c) k0 k1 (by omega) (by omega);rw[T 0 (k*(M.aq m o.a).c) q (by omega) (by omega) (by omega) (by rw[wc];omega),ak cY]
 ·have n1:¬o.af=1:=by omega
  simp only[ak n1,ay hk];have wc:=s4 hk;rw[show(k+1-k).toNat=1 by omega];show D.S _ 0+iO _ u v 0 k i p 0=_;rw[T k 0 0 (by omega) (by omega) (by omega) (by omega)];simp only[Int.zero_add,Int.natCast_zero,Int.add_zero,D.S]
  rfl
theorem Xy{m:M.Md}{o:M.Op}(h:M.bT m o=true)(hk:o.af=3):M.qL (M.aq m o.a) (M.aq m o.aP) (M.aq m o.bC) (M.aq m o.to)=true:=by
 unfold M.bT at h;simp only[hk] at h
 simpa using h
theorem akk(l:List Int)(i:Nat):l.getD i 0=D.get l i:=by
 unfold D.get;rw[ak (by omega),eC]
theorem akl{m:M.Md}{o:M.Op}{la lb:List Int}(F:jQ m o la lb)(hk:o.af=3){k:Int}(k0:0<=k)(k1:k<(M.aq m o.to).c) :
  kE (start m o la lb) k la.length=D.Fy (dd m o la lb) k:=by
 have hW:M.cm o.af=true:=by rw[ku];omega
 have hd:=Xy F.bT hk;unfold M.qL at hd;simp only[eX,beq_iff_eq] at hd;obtain⟨⟨⟨d1,d2⟩,d3⟩,d4⟩:=hd;obtain⟨z1,z2,z3⟩:=(DY _ _).mp d1;obtain⟨b1,b2,b3⟩:=(DY _ _).mp d2;have ew:(start m o la lb).aP=fg (M.aq m o.aP) (M.aq m o.aP).data:=ay hW;have eb:(start m o la lb).bC=fg (M.aq m o.bC) (M.aq m o.bC).data:=ay hW;unfold kE D.Fy;rw[ew,eb];have eB:jZ (fg (M.aq m o.bC) (M.aq m o.bC).data) k=D.get (dd m o la lb).mM k:=by
  refine MM (g:=fg (M.aq m o.bC) (M.aq m o.bC).data) k0 ?_;show k<((M.aq m o.bC).data.length:Int);rw[F.li hW];unfold M.cellsOf;rw[b1,b2,b3];omega
 rw[eB]
 congr 1
 have en:(M.cellsOf (dd m o la lb).a).toNat=la.length:=by
  show(M.cellsOf (M.aq m o.a)).toNat=_;rw[<-F.na];omega
 rw[en];refine D.FA fun i hi=>?_;have:(i:Int)<M.cellsOf (M.aq m o.a):=by rw[<-F.na];omega
 rw[yQ (F.lw hW) k0 (by omega) (by omega) (by omega) (by omega) (by omega)];show(la.getD i 0-_)*_=_;rw[akk]
 rfl
theorem vJ{m:M.Md}{o:M.Op}(h:M.bT m o=true):(o.af=4->M.kY (M.aq m o.a) (M.aq m o.to)=true/\M.kY (M.aq m o.b) (M.aq m o.to)=true) /\
  (o.af=7->M.kY (M.aq m o.a) (M.aq m o.to)=true)/\(o.af=5\/o.af=6->M.rG o (M.aq m o.a) (M.aq m o.to)=true) /\
  (o.af=8->(M.aq m o.to).h=(M.aq m o.a).h+o.aT+o.below/\(M.aq m o.to).w=(M.aq m o.a).w+o.left+o.right/\(M.aq m o.to).c=(M.aq m o.a).c) /\
  (o.af=9->M.cellsOf (M.aq m o.a)=M.cellsOf (M.aq m o.to)) /\
  (o.af=10->(M.aq m o.a).h=(M.aq m o.b).h/\(M.aq m o.a).w=(M.aq m o.b).w/\(M.aq m o.to).h=(M.aq m o.a).h/\(M.aq m o.to).w=(M.aq m o.a).w/\(M.aq m o.to).c=(M.aq m o.a).c+(M.aq m o.b).c):=by
 unfold M.bT at h;refine⟨fun k=>?_,fun k=>?_,fun k=>?_,fun k=>?_,fun k=>?_,fun k=>?_⟩
 ·simp only[k] at h;simpa using h
 ·simp only[k] at h;simpa using h
 ·rcases k with k|k<;>(simp only[k] at h;simpa using h)
 ·simp only[k] at h;simpa[and_assoc] using h
 ·simp only[k] at h;simpa using h
 ·simp only[k] at h;simpa[and_assoc] using h
theorem At(a z:M.Tn):M.kY a z=true↔a.h=z.h/\a.w=z.w/\a.c=z.c:=by
 unfold M.kY;simp[and_assoc]
theorem akm{m:M.Md}{o:M.Op}{la lb:List Int}(F:jQ m o la lb)(hk:o.af=4){y x k:Int}(y0:0<=y)(y1:y<(M.aq m o.to).h)(x0:0<=x)(x1:x<(M.aq m o.to).w)(k0:0<=k)(k1:k<(M.aq m o.to).c) :
  Ap (start m o la lb) y x k=D.Ap o (dd m o la lb) y x k:=by
 have hT:M.dr o.af=true:=by rw[nH];omega
 obtain⟨sa,sb⟩:=(vJ F.bT).1 hk;obtain⟨a1,a2,a3⟩:=(At _ _).mp sa;obtain⟨b1,b2,b3⟩:=(At _ _).mp sb;have eb:(start m o la lb).b=fg (M.aq m o.b) lb:=ay hT;have hl:o.bM.length=3:=by
  have:=F.dQ.bM;rw[ak (by rw[ku];omega),ay hk] at this;exact this
 have fI:(start m o la lb).op.bM.length=3:=hl;unfold Ap D.Ap;rw[eb,QW,QX (by omega),QX (by omega),yQ (F.nb hT) y0 (by omega) x0 (by omega) k0 (by omega)];have ea:bN (start m o la lb).a y x k=D.bN (M.aq m o.a) la y x k:=yQ F.na y0 (by omega) x0 (by omega) k0 (by omega);rw[ea]
 rfl
theorem Xz{o:M.Op}{a z:M.Tn}(h:M.rG o a z=true):z.h=M.dP o.size a.h o.aE false/\z.w=M.dP o.size a.w o.aE false/\z.c=a.c:=by
 unfold M.rG at h;simpa[and_assoc] using h
theorem MO{n length s y:Int}(hs:1<=s)(hn:1<=n)(y0:0<=y)(y1:y<M.dP n length s false):y*s+n<=length:=by
 unfold M.dP at y1;rw[ak (by omega),ak (by decide)] at y1;by_cases c:length<n
 ·rw[ay c] at y1;omega
 ·rw[ak c] at y1
  have h1:y*s<=(length-n)/s*s:=Int.mul_le_mul_of_nonneg_right (by omega) (by omega);have h2:(length-n)/s*s<=length-n:=Int.ediv_mul_le _ (by omega);omega
theorem akn{m:M.Md}{o:M.Op}{la lb:List Int}(F:jQ m o la lb)(hk:o.af=5\/o.af=6){y x k:Int}(y0:0<=y)(y1:y<(M.aq m o.to).h)(x0:0<=x)(x1:x<(M.aq m o.to).w)(k0:0<=k)(k1:k<(M.aq m o.to).c) :
  1<=o.size/\∀q,q<(o.size*o.size).toNat->iY (start m o la lb) y x k q=D.iY o (dd m o la lb) y x k q:=by
 obtain⟨s1,s2,s3⟩:=Xz ((vJ F.bT).2.2.1 hk);have p1:=IQ (show 1<=M.dP o.size (M.aq m o.a).h o.aE false by rw[<-s1];exact F.z.h0);have w1:=MO p1.1 p1.2.1 y0 (by rw[<-s1];exact y1);have w2:=MO p1.1 p1.2.1 x0 (by rw[<-s2];exact x1);refine⟨p1.2.1,fun q hq=>?_⟩;have W7:(q:Int)<o.size*o.size:=by omega
 have d0:0<=(q:Int)/o.size:=Int.ediv_nonneg (by omega) (by omega);have d1:(q:Int)/o.size<o.size:=Int.ediv_lt_of_lt_mul (by omega) W7;have e0:0<=(q:Int)%o.size:=DS _ (by omega);have e1:(q:Int)%o.size<o.size:=DU _ (by omega);have g0:0<=y*o.aE:=lg y0 (by omega);have g1:0<=x*o.aE:=lg x0 (by omega);unfold iY D.iY;exact yQ F.na (y:=y*o.aE+q/o.size) (x:=x*o.aE+q%o.size) (by omega) (by omega) (by omega) (by omega) k0 (by omega)
theorem ako{m:M.Md}{o:M.Op}(h:M.kB m o=true)(hk:o.af=8):(M.aq m o.a).zero=(M.aq m o.to).zero:=by
 unfold M.kB M.jV at h;simp only[hk,eX] at h;have:=h.2
 simpa[M.cm,M.dr] using this
theorem akp{m:M.Md}{o:M.Op}{la lb:List Int}(F:jQ m o la lb){y x k:Int}(y0:0<=y)(y1:y<(M.aq m o.to).h)(x0:0<=x)(x1:x<(M.aq m o.to).w)(k0:0<=k)(k1:k<(M.aq m o.to).c) :
  cell (start m o la lb) y x k=D.cell o (dd m o la lb) y x k:=by
 have f0:=F.dQ.k0;have f1:=F.dQ.k1;have eo:(start m o la lb).op=o:=rfl;have ea:(start m o la lb).a=fg (M.aq m o.a) la:=rfl;have ez:(start m o la lb).dM=M.aq m o.to:=rfl;unfold cell;rw[eo,ea,ez];by_cases xB:o.af=1\/o.af=2
 ·have hl:0<o.bM.length:=by
   have:=F.dQ.bM;rw[ay (by rw[ku];omega)] at this;omega
  have hs:=Xx F xB (y:=y) (x:=x) k0 k1;rw[D.Mt _ _ _ _ xB,<-hs,<-QY hl];unfold vI;rcases xB with h|h
  ·rw[ay h,ay h,ay h,ay h];rfl
  ·have h':¬o.af=1:=by omega
   rw[ak h',ay h,ak h',ak h',ak h']
 ·rw[ak (by omega),ak (by omega)]
  by_cases h3:o.af=3
  ·have hl:0<o.bM.length:=by
    have:=F.dQ.bM;rw[ay (by rw[ku];omega)] at this;omega
   rw[ay h3,D.Mu _ _ _ _ h3,<-akl F h3 k0 k1,<-QY hl]
   rfl
  ·rw[ak h3]
   by_cases h4:o.af=4
   ·have hl:2<o.bM.length:=by
     have:=F.dQ.bM;rw[ak (by rw[ku];omega),ay h4] at this;omega
    rw[ay h4,D.Mv _ _ _ _ h4,<-akm F h4 y0 y1 x0 x1 k0 k1,<-QY hl]
    rfl
   ·rw[ak h4]
    by_cases MP:o.af=5\/o.af=6
    ·obtain⟨n1,hp⟩:=akn F MP y0 y1 x0 x1 k0 k1
     have hn:1<=o.size*o.size:=by
      have:1*1<=o.size*o.size:=Int.mul_le_mul n1 n1 (by decide) (by omega);omega
     have hr:∀v,uk (start m o la lb) v=R.cW v o.lo o.hi:=fun v=>rfl;rw[ay MP];unfold As;rw[eo,hr,hr];rcases MP with h|h
     ·rw[ay h,D.Mw _ _ _ _ h]
      congr 1
      have gj:∀q,q<(o.size*o.size).toNat->-128<=D.iY o (dd m o la lb) y x k q:=fun q hq=>(D.IH (show D.kq la from F.ca) _).1;rw[Xt _ (by omega) fun q hq=>by rw[hp q hq];exact gj q hq];show D.lp _ (o.size*o.size).toNat=D.lp _ (o.size*o.size).toNat;have:∀n,n<=(o.size*o.size).toNat->D.lp (iY (start m o la lb) y x k) n=D.lp (D.iY o (dd m o la lb) y x k) n:=by
       intro n
       induction n with
       | zero=>intro _;rfl
       | succ n ih=>
        intro sP;unfold D.lp;rw[ih (by omega),hp n (by omega)];by_cases c0:n=0
        ·subst c0;rw[ay rfl,ay rfl,hp 0 (by omega)]
        ·rw[ak c0,ak c0]
      exact this _ (bj _)
     ·rw[ak (by omega),D.Mx _ _ _ _ h]
      congr 1
      rw[akh hn]
      congr 1
      exact D.FA hp
    ·rw[ak MP]
     by_cases h7:o.af=7
     ·obtain⟨a1,a2,a3⟩:=(At _ _).mp ((vJ F.bT).2.1 h7)
      rw[ay h7,D.Fz _ _ _ _ h7,yQ F.na y0 (by omega) x0 (by omega) k0 (by omega)]
      rfl
     ·rw[ak h7]
      by_cases h8:o.af=8
      ·obtain⟨-,-,a3⟩:=(vJ F.bT).2.2.2.1 h8
       rw[ay h8,D.My _ _ _ _ h8,Xv F.na k0 (by omega),ako F.ur h8]
       rfl
      ·rw[ak h8]
       by_cases h9:o.af=9
       ·have e:=(vJ F.bT).2.2.2.2.1 h9
        have hp:=MN y0 y1 x0 x1 k0 k1;rw[ay h9,D.Mz _ _ _ _ h9];refine MM (g:=fg (M.aq m o.a) la) hp.1 ?_;show _<(la.length:Int);rw[F.na,e];exact hp.2
       ·have DW:o.af=10:=by omega
        have hT:M.dr o.af=true:=by rw[nH];omega
        obtain⟨c1,c2,c3,c4,c5⟩:=(vJ F.bT).2.2.2.2.2 DW;have eb:(start m o la lb).b=fg (M.aq m o.b) lb:=ay hT;rw[ak h9,ay DW,D.MA _ _ _ _ DW,eb];show(if k<(M.aq m o.a).c then _ else _)=if k<(M.aq m o.a).c then _ else _;by_cases hc:k<(M.aq m o.a).c
        ·rw[ay hc,ay hc,yQ F.na y0 (by omega) x0 (by omega) k0 hc]
         rfl
        ·rw[ak hc,ak hc]
         exact yQ (F.nb hT) y0 (by omega) x0 (by omega) (by show 0<=k-(M.aq m o.a).c;omega) (by show k-(M.aq m o.a).c<_;omega)
theorem Q6{m:M.Md}{o:M.Op}{la lb:List Int}(F:jQ m o la lb):iu m o la lb=D.oT (M.aq m o.to) (D.cell o (dd m o la lb)):=
 D.MB (fun _ _ _ y0 y1 x0 x1 k0 k1=>akp F y0 y1 x0 x1 k0 k1) (by have:=F.z.w0;omega) (by have:=F.z.c0;omega)
end O
namespace O
def FD(ts:List M.Tn):List Int:=(ts.filter fun t=>t.af==0).map M.cellsOf
theorem akq(ts:List M.Tn):∀ins,(mN ts ins).length=ts.length:=by
 induction ts with
 | nil=>intro ins;rfl
 | cons t ts ih=>intro ins;unfold mN;split<;>(try split)<;>simp[ih]
theorem Q7(ts:List M.Tn):∀ins,(D.start ts ins).length=ts.length:=by
 induction ts with
 | nil=>intro ins;rfl
 | cons t ts ih=>intro ins;unfold D.start;split<;>(try split)<;>simp[ih]
theorem XA(ts:List M.Tn)(hf:∀t∈ts,yN t):∀ins (n:Nat) t,ts[n]?=some t->t.af≠2->(mN ts ins).getD n []=(D.start ts ins).getD n []:=by
 induction ts with
 | nil=>intro ins n t h;simp at h
 | cons u ts ih=>
  intro ins n t h h2;have DZ:=ih (fun t ht=>hf t (sZ _ ht));have fu:=hf u pC;unfold mN D.start;by_cases c0:u.af=0
  ·rw[ay c0,ay c0]
   cases n with
   | zero=>rfl
   | succ n=>simpa using DZ ins.tail n t (by simpa using h) h2
  ·rw[ak c0,ak c0]
   by_cases c1:u.af=1
   ·rw[ay c1,ak (by omega)]
    cases n with
    | zero=>rfl
    | succ n=>simpa using DZ ins n t (by simpa using h) h2
   ·rw[ak c1]
    cases n with
    | zero=>
     have:u=t:=by simpa using h
     subst this;have:=fu.k1;have:=fu.k0;rw[ay (by omega)];rfl
    | succ n=>
     split
     ·simpa using DZ ins n t (by simpa using h) h2
     ·simpa using DZ ins n t (by simpa using h) h2
theorem akr(ts:List M.Tn):∀ins (n:Nat) t,ts[n]?=some t->t.af=1\/t.af=2->(D.start ts ins).getD n []=t.data:=by
 induction ts with
 | nil=>intro ins n t h;simp at h
 | cons u ts ih=>
  intro ins n t h h2;unfold D.start
  cases n with
  | zero=>
   have:u=t:=by simpa using h
   subst this;rw[ak (by omega),ak (by omega)];rfl
  | succ n=>
   split
   ·simpa using ih ins.tail n t (by simpa using h) h2
   ·split<;>simpa using ih ins n t (by simpa using h) h2
theorem aks(ts:List M.Tn)(hf:∀t∈ts,yN t):∀ins:List (List Int),(ins.map fun l=>(l.length:Int))=FD ts->∀(n:Nat) t,ts[n]?=some t->t.af≠2->t.af≠3->(((mN ts ins).getD n []).length:Int)=M.cellsOf t:=by
 induction ts with
 | nil=>intro ins _ n t h;simp at h
 | cons u ts ih=>
  intro ins hl n t h h2 h3;have DZ:=ih (fun t ht=>hf t (sZ _ ht));have fu:=hf u pC;unfold mN;by_cases c0:u.af=0
  ·rw[ay c0]
   cases ins with
   | nil=>exact aN hl (by unfold FD;simp[c0])
   | cons l ins=>
    have fI:(l.length:Int)=M.cellsOf u/\(ins.map fun l=>(l.length:Int))=FD ts:=by
     unfold FD at hl ⊢;simpa[c0] using hl
    cases n with
    | zero=>
     have:u=t:=by simpa using h
     subst this;exact fI.1
    | succ n=>simpa using DZ ins fI.2 n t (by simpa using h) h2 h3
  ·rw[ak c0]
   have fI:(ins.map fun l=>(l.length:Int))=FD ts:=by
    unfold FD at hl ⊢;simpa[c0] using hl
   cases n with
   | zero=>
    have:u=t:=by simpa using h
    subst this;have k0:=fu.k0;have k1:=fu.k1;have c1:u.af=1:=by omega
    rw[ay c1];have:=(fu.lr c1).1;unfold M.cellsOf;rw[this];rfl
   | succ n=>split<;>simpa using DZ ins fI n t (by simpa using h) h2 h3
theorem kP{m:M.Md}{n:Int}(h0:0<=n)(h1:n<m.au.length):m.au[n.toNat]?=some (M.aq m n)/\M.aq m n∈m.au:=by
 have hl:n.toNat<m.au.length:=by omega
 have e:M.aq m n=m.au[n.toNat]:=by
  unfold M.aq;rw[ak (by omega),List.getD,aS hl]
  rfl
 rw[e];exact⟨aS hl,List.getElem_mem hl⟩
theorem MQ{m:M.Md}{n:Nat}{t:M.Tn}(h:m.au[n]?=some t):(m.au.map (·.af)).getD n 0=t.af:=by
 rw[List.getD,dV,h];rfl
theorem mo{m:M.Md}{n k:Int}(h:M.jM m n k=true):0<=n/\n<m.au.length/\(M.aq m n).af=k:=by
 obtain⟨h0,h1,h2⟩:=M.yP h;have:=(kP h0 h1).1;rw[MQ this] at h2;exact⟨h0,h1,h2⟩
structure iP(m:M.Md):Prop where
 dQ:ow m
 kQ:∀t∈m.au,uo t
 mM:∀t∈m.au,t.af=2->∀v∈t.data,-1073741824<=v/\v<=1073741824
 bT:∀o∈m.ag,M.bT m o=true
 ur:∀o∈m.ag,M.kB m o=true
 to:∀(i:Nat) o,m.ag[i]?=some o->M.jM m o.to 3=true
 a:∀(i:Nat) o,m.ag[i]?=some o->M.uj m o.a i
 b:∀(i:Nat) o,m.ag[i]?=some o->M.dr o.af=true->M.uj m o.b i
 ws:∀(i:Nat) o,m.ag[i]?=some o->M.cm o.af=true->M.jM m o.aP 1=true/\M.jM m o.bC 2=true
 aK:∀u∈m.aK,M.uj m u m.ag.length
 Q8:M.DX m m.ag.length
 all:M.IP m
 nt:m.au.length<=24
 no:m.ag.length<=16
theorem akt{m:M.Md}(hF:ow m)(hc:M.check m=0):iP m:=by
 obtain⟨hl,hg,hs,hq⟩:=D.aj8 hc;obtain⟨by_,hm,hr,ho⟩:=D.QS hg;obtain⟨O1,M1,A1⟩:=(M.QV m).1 by_ hm;unfold M.nj at hl;simp only[eX,jn] at hl;unfold M.sN at hq;simp only[eX,jn] at hq;unfold M.z6 at hs;rw[jn] at hs;refine⟨hF,fun t ht=>akj (hF.ts t ht) (hl.1.2 t ht),fun t ht h2 v hv=>?_,hs,hq.2,fun i o h=>O1.Cb i o (M.bP h) h,fun i o h=>?_,fun i o h h2=>?_,fun i o h h2=>?_,fun u hu=>?_,O1,A1,by simp at hl;omega,by simp at hl;omega⟩
 ·have:=hq.1 t ht
  unfold M.qM at this;rw[ak (by omega)] at this;simp only[eX,jn] at this;have:=this.1 v hv;simp at this;omega
 ·have:=hr i o h
  unfold M.lI at this;simp only[eX] at this;exact(M.MJ O1 M1 A1 _ _ (by omega)).mp this.1
 ·have:=hr i o h
  unfold M.lI at this;simp only[eX] at this;rw[ay h2] at this;exact(M.MJ O1 M1 A1 _ _ (by omega)).mp this.2
 ·have:=hr i o h
  unfold M.lI at this;simp only[eX] at this;have h3:¬M.dr o.af=true:=by rw[nH];rw[ku] at h2;omega
  rw[ak h3,ak (by rw[h2];decide)] at this
  simpa using this.2
 ·have:=ho u hu
  unfold M.lZ at this;simp only[eX,decide_eq_true_eq,bne_iff_ne] at this;refine⟨this.1.1,this.1.2,this.2,fun hk=>?_⟩;obtain⟨j,o,hj,he⟩:=A1 u.toNat (by omega) hk;exact⟨j,o,by have:=M.bP hj;omega,hj,by omega⟩
structure uu(m:M.Md)(C E:List (List Int))(i:Nat):Prop where
 MR:C.length=m.au.length
 FE:E.length=m.au.length
 eq:∀(n:Nat) t,m.au[n]?=some t->t.af≠2->C.getD n []=E.getD n []
 data:∀(n:Nat) t,m.au[n]?=some t->t.af=1\/t.af=2->E.getD n []=t.data
 s9:∀(n:Nat) t,m.au[n]?=some t->t.af≠2->(t.af=3->∃(j:Nat) (o:M.Op),j<i/\m.ag[j]?=some o/\o.to=n)->((C.getD n []).length:Int)=M.cellsOf t
 cells:∀(n:Nat) t,m.au[n]?=some t->t.af≠2->D.kq (C.getD n [])
theorem uu.there{m:M.Md}{C E:List (List Int)}{i:Nat}(h:uu m C E i){n:Int}(ht:M.uj m n i) :
  M.aq m n∈m.au/\((D.bW C n).length:Int)=M.cellsOf (M.aq m n)/\D.kq (D.bW C n)/\D.bW C n=D.bW E n:=by
 obtain⟨h0,h1,h2,h3⟩:=ht;obtain⟨g1,g2⟩:=kP h0 h1;rw[MQ g1] at h2 h3;unfold D.bW;rw[ak (by omega),ak (by omega)];refine⟨g2,h.s9 _ _ g1 h2 fun k3=>?_,h.cells _ _ g1 h2,h.eq _ _ g1 h2⟩;obtain⟨j,o,hj,ho,he⟩:=h3 k3;exact⟨j,o,by omega,ho,by omega⟩
theorem uu.Ce{m:M.Md}(h1:iP m){C E:List (List Int)}{i:Nat}(h:uu m C E i){o:M.Op}(ho:m.ag[i]?=some o):jQ m o (D.bW C o.a) (D.bW C o.b):=by
 have hm:=bU ho;obtain⟨t0,t1,t2⟩:=mo (h1.to i o ho);obtain⟨a1,a2,a3,a4⟩:=h.there (h1.a i o ho);refine⟨h1.dQ.os o hm,h1.bT o hm,h1.ur o hm,h1.kQ _ (kP t0 t1).2,h1.kQ _ a1,a2,a3,fun k=>?_,fun k=>?_,fun k=>?_,fun k=>?_,fun k=>?_,fun k=>?_,fun k=>?_,fun k=>?_,fun k=>?_⟩
 ·exact h1.kQ _ (h.there (h1.b i o ho k)).1
 ·exact(h.there (h1.b i o ho k)).2.1
 ·exact(h.there (h1.b i o ho k)).2.2.1
 ·obtain⟨x0,x1,-⟩:=mo (h1.ws i o ho k).1
  exact h1.kQ _ (kP x0 x1).2
 ·obtain⟨x0,x1,x2⟩:=mo (h1.ws i o ho k).1
  exact((h1.dQ.ts _ (kP x0 x1).2).lr x2).1.symm
 ·obtain⟨x0,x1,x2⟩:=mo (h1.ws i o ho k).1
  exact fun v hv=>((h1.dQ.ts _ (kP x0 x1).2).lr x2).2 v hv
 ·obtain⟨x0,x1,-⟩:=mo (h1.ws i o ho k).2
  exact h1.kQ _ (kP x0 x1).2
 ·obtain⟨x0,x1,x2⟩:=mo (h1.ws i o ho k).2
  exact((h1.dQ.ts _ (kP x0 x1).2).MD x2).1.symm
 ·obtain⟨x0,x1,x2⟩:=mo (h1.ws i o ho k).2
  exact h1.mM _ (kP x0 x1).2 x2
theorem uu.dM{m:M.Md}(h1:iP m){C E:List (List Int)}{i:Nat}(h:uu m C E i){o:M.Op}(ho:m.ag[i]?=some o):iu m o (D.bW C o.a) (D.bW C o.b)=D.dM m E o:=by
 have F:=h.Ce h1 ho;rw[Q6 F];unfold D.dM;obtain⟨-,-,-,ea⟩:=h.there (h1.a i o ho);have z:=F.z;by_cases hT:M.dr o.af=true
 ·have hW:¬M.cm o.af=true:=by rw[ku];rw[nH] at hT;omega
  obtain⟨-,-,-,eb⟩:=h.there (h1.b i o ho hT);have:dd m o (D.bW C o.a) (D.bW C o.b)={ D.DR m E o with lw:=(M.aq m o.aP).data,mM:=(M.aq m o.bC).data }:=by
   unfold dd D.DR;rw[ea,eb]
  rw[this];refine D.MB (fun y x c _ _ _ _ _ _=>?_) (by have:=z.w0;omega) (by have:=z.c0;omega);have h4:o.af=4\/o.af=10:=(nH _).mp hT;rcases h4 with h4|h4
  ·rw[D.Mv _ _ _ _ h4,D.Mv _ _ _ _ h4];rfl
  ·rw[D.MA _ _ _ _ h4,D.MA _ _ _ _ h4]
 ·by_cases hW:M.cm o.af=true
  ·obtain⟨w1,w2⟩:=h1.ws i o ho hW
   obtain⟨x0,x1,x2⟩:=mo w1;obtain⟨y0,y1,y2⟩:=mo w2;have e1:D.bW E o.aP=(M.aq m o.aP).data:=by
    unfold D.bW;rw[ak (by omega)];exact h.data _ _ (kP x0 x1).1 (.inl x2)
   have e2:D.bW E o.bC=(M.aq m o.bC).data:=by
    unfold D.bW;rw[ak (by omega)];exact h.data _ _ (kP y0 y1).1 (.inr y2)
   have:dd m o (D.bW C o.a) (D.bW C o.b)={ D.DR m E o with lb:=D.bW C o.b }:=by
    unfold dd D.DR;rw[ea,e1,e2]
   rw[this];refine D.MB (fun y x c _ _ _ _ _ _=>?_) (by have:=z.w0;omega) (by have:=z.c0;omega);have h4:o.af=1\/o.af=2\/o.af=3:=(ku _).mp hW;by_cases xB:o.af=1\/o.af=2
   ·rw[D.Mt _ _ _ _ xB,D.Mt _ _ _ _ xB];rfl
   ·have h3:o.af=3:=by omega
    rw[D.Mu _ _ _ _ h3,D.Mu _ _ _ _ h3];rfl
  ·have:dd m o (D.bW C o.a) (D.bW C o.b)={ D.DR m E o with lb:=D.bW C o.b,lw:=(M.aq m o.aP).data,mM:=(M.aq m o.bC).data }:=by
    unfold dd D.DR;rw[ea]
   rw[this];refine D.MB (fun y x c _ _ _ _ _ _=>?_) (by have:=z.w0;omega) (by have:=z.c0;omega);rw[ku] at hW;rw[nH] at hT;have f0:=F.dQ.k0;have f1:=F.dQ.k1;by_cases h5:o.af=5
   ·rw[D.Mw _ _ _ _ h5,D.Mw _ _ _ _ h5];rfl
   ·by_cases h6:o.af=6
    ·rw[D.Mx _ _ _ _ h6,D.Mx _ _ _ _ h6];rfl
    ·by_cases h7:o.af=7
     ·rw[D.Fz _ _ _ _ h7,D.Fz _ _ _ _ h7]
     ·by_cases h8:o.af=8
      ·rw[D.My _ _ _ _ h8,D.My _ _ _ _ h8]
      ·have h9:o.af=9:=by omega
       rw[D.Mz _ _ _ _ h9,D.Mz _ _ _ _ h9]
theorem uu.step{m:M.Md}(h1:iP m){C E:List (List Int)}{i:Nat}(h:uu m C E i){o:M.Op}(ho:m.ag[i]?=some o):uu m (step m C o) (D.step m E o) (i+1):=by
 have F:=h.Ce h1 ho;have em:=h.dM h1 ho;have hm:=bU ho;obtain⟨t0,t1,t2⟩:=mo (h1.to i o ho);have tg:=(kP t0 t1).1;have hq:=h1.ur o hm;unfold M.kB at hq;simp only[eX,Bool.not_eq_true',decide_eq_false_iff_not] at hq;have hC:D.kq (D.dM m E o):=by
  rw[<-em,Q6 F]
  apply D.Xk
  intro y x c;refine D.Xj o _ y x c F.ca (fun DW=>F.cb (by rw[nH];exact .inr DW)) F.dQ.k0 F.dQ.k1 ⟨F.z.z0,F.z.z1⟩ F.dQ.lo.1 (by have:=hq.1.1;omega) F.dQ.hi.2
 unfold O.step D.step;rw[em];refine⟨by simp[h.MR],by simp[h.FE],fun n t hn h2=>?_,fun n t hn h2=>?_,fun n t hn h2 h3=>?_,fun n t hn h2=>?_⟩
 ·rw[D.yO,D.yO,h.MR,h.FE]
  split
  ·rfl
  ·exact h.eq n t hn h2
 ·rw[D.yO,ak,h.data n t hn h2]
  rintro ⟨e,-⟩;subst e;rw[tg] at hn;injection hn with hn;rw[hn] at t2;omega
 ·rw[D.yO]
  by_cases c:o.to.toNat=n/\n<C.length
  ·rw[ay c]
   obtain⟨c1,-⟩:=c;subst c1;rw[tg] at hn;injection hn with hn;subst hn;unfold D.dM;rw[D.aj3];have:0<=M.cellsOf (M.aq m o.to):=by
    unfold M.cellsOf;exact lg (lg (by have:=F.z.h0;omega) (by have:=F.z.w0;omega)) (by have:=F.z.c0;omega)
   omega
  ·rw[ak c]
   refine h.s9 n t hn h2 fun k3=>?_;obtain⟨j,p,hj,hp,he⟩:=h3 k3;refine⟨j,p,?_,hp,he⟩;rcases cE j i with h' | h'
   ·exact h'
   ·exfalso
    obtain rfl:j=i:=by omega
    rw[ho] at hp;injection hp with hp;subst hp;exact c ⟨by omega,by rw[h.MR];exact M.bP hn⟩
 ·rw[D.yO]
  split
  ·exact hC
  ·exact h.cells n t hn h2
theorem aku{m:M.Md}(h1:iP m){ins:List (List Int)}(hi:D.jP m ins=true):uu m (mN m.au ins) (D.start m.au ins) 0:=by
 unfold D.jP at hi;simp only[eX,beq_iff_eq,jn] at hi;have hc:∀l∈ins,D.kq l:=by
  intro l hl v hv;have:=hi.2 l hl v hv;unfold D.lq at this
  simpa using this
 refine⟨akq _ _,Q7 _ _,XA _ h1.dQ.ts ins,akr _ ins,fun n t hn h2 h3=>?_,fun n t hn h2=>?_⟩
 ·refine aks _ h1.dQ.ts ins hi.1 n t hn h2 fun k3=>?_
  obtain⟨j,o,hj,-⟩:=h3 k3;omega
 ·rw[XA _ h1.dQ.ts ins n t hn h2]
  refine D.aj9 m.au ins hc (fun t ht h0 h3 h2=>?_) n (by rw[MQ hn];exact h2);have ft:=h1.dQ.ts t ht;have k1:t.af=1:=by have:=ft.k0;have:=ft.k1;omega
  exact fun v hv=>(ft.lr k1).2 v hv
theorem IS{m:M.Md}(h1:iP m){ins:List (List Int)}(hi:D.jP m ins=true):∀k,k<=m.ag.length->uu m ((m.ag.take k).foldl (step m) (mN m.au ins)) ((m.ag.take k).foldl (D.step m) (D.start m.au ins)) k:=by
 intro k
 induction k with
 | zero=>intro _;exact aku h1 hi
 | succ k ih=>
  intro hk;have hx:m.ag[k]?=some m.ag[k]:=aS (by omega);rw[List.take_add_one,hx,List.foldl_append,List.foldl_append];exact(ih (by omega)).step h1 hx
theorem XB{m:M.Md}(h1:iP m){ins:List (List Int)}(hi:D.jP m ins=true):run m ins=D.run m ins:=by
 have h:=IS h1 hi m.ag.length (bj _);rw[jm] at h;unfold run D.run
 apply List.map_congr_left
 intro u hu;exact(h.there (h1.aK u hu)).2.2.2
end O
namespace O
structure pE(g:G):Prop where
 h0:0<=g.h
 h1:g.h<=255
 w0:0<=g.w
 w1:g.w<=255
 c0:0<=g.c
 c1:g.c<=255
 z0:-128<=g.zero
 z1:g.zero<=127
 cells:D.kq g.cells
 len:g.cells.length<=512
theorem pE.no:pE xA:=⟨by decide,by decide,by decide,by decide,by decide,by decide,by decide,by decide,D.MI,by decide⟩
theorem pE.fg{t:M.Tn}{l:List Int}(h:uo t)(hl:(l.length:Int)=M.cellsOf t)(hc:D.kq l):pE (fg t l):=
 ⟨by have:=h.h0;show 0<=t.h;omega,h.h1,by have:=h.w0;show 0<=t.w;omega,h.w1,by have:=h.c0;show 0<=t.c;omega,h.c1,h.z0,h.z1,hc,by have:=h.mn;show l.length<=512;omega⟩
theorem pE.jZ{g:G}(h:pE g)(i:Int):-128<=jZ g i/\jZ g i<=127:=by
 unfold O.jZ
 split
 ·exact⟨h.z0,h.z1⟩
 ·rename_i c
  have hl:i.toNat<g.cells.length:=by omega
  rw[List.getD,aS hl];exact h.cells _ (List.getElem_mem hl)
theorem pE.at{g:G}(h:pE g)(y x k:Int):-128<=bN g y x k/\bN g y x k<=127:=by
 unfold bN
 split
 ·exact⟨h.z0,h.z1⟩
 ·exact h.jZ _
structure MS(g:G):Prop where
 z0:-128<=g.zero
 z1:g.zero<=127
 cells:∀v∈g.cells,-1073741824<=v/\v<=1073741824
 len:g.cells.length<=512
theorem MS.jZ{g:G}(h:MS g)(i:Int):-1073741824<=jZ g i/\jZ g i<=1073741824:=by
 have:=h.z0;have:=h.z1;unfold O.jZ
 split
 ·omega
 ·rename_i c
  have hl:i.toNat<g.cells.length:=by omega
  rw[List.getD,aS hl];exact h.cells _ (List.getElem_mem hl)
structure kx(j:J):Prop where
 dQ:kN j.op
 a:pE j.a
 b:pE j.b
 w:pE j.aP
 bi:MS j.bC
 z:uo j.dM
 bM:∀c∈j.op.bM,1073741824<=c.eF/\c.eF<=2147483647/\-31<=c.shift/\c.shift<=30
theorem jQ.ok{m:M.Md}{o:M.Op}{la lb:List Int}(F:jQ m o la lb):kx (start m o la lb):=by
 have hq:=F.ur;unfold M.kB at hq;simp only[eX,jn] at hq;refine⟨F.dQ,pE.fg F.a F.na F.ca,?_,?_,?_,F.z,fun c hc=>?_⟩
 ·show pE (if M.dr o.af=true then _ else _)
  split
  ·rename_i h;exact pE.fg (F.b h) (F.nb h) (F.cb h)
  ·exact pE.no
 ·show pE (if M.cm o.af=true then _ else _)
  split
  ·rename_i h;exact pE.fg (F.w h) (F.lw h) (F.cw h)
  ·exact pE.no
 ·show MS (if M.cm o.af=true then _ else _)
  split
  ·rename_i h
   exact⟨(F.bi h).z0,(F.bi h).z1,F.ci h,by have:=(F.bi h).mn;have:=F.li h;show(M.aq m o.bC).data.length<=512;omega⟩
  ·exact⟨by decide,by decide,fun v hv=>aN hv (by simp[xA]),by decide⟩
 ·have:=hq.1.2 c hc
  unfold M.rH at this;simp at this;omega
theorem IT{f:Nat->Int}{n:Nat}{B:Int}(h:∀i,i<n->-B<=f i/\f i<=B):-(n*B)<=D.S f n/\D.S f n<=n*B:=by
 have h1:=D.aj1 (k:=B) fun i hi=>(h i hi).2;have h2:=D.aj2 (k:=-B) fun i hi=>(h i hi).1;rw[Int.mul_neg] at h2;exact⟨h2,h1⟩
theorem yR{f:Nat->Int}{n N:Nat}{B:Int}(hN:n<=N)(hB:0<=B)(h:∀i,i<n->-B<=f i/\f i<=B):-(N*B)<=D.S f n/\D.S f n<=N*B:=by
 have:=IT h;have:(n:Int)*B<=N*B:=Int.mul_le_mul_of_nonneg_right (by omega) hB;omega
theorem kR{a b A B:Int}(ha:-A<=a/\a<=A)(hb:-B<=b/\b<=B):-(A*B)<=a*b/\a*b<=A*B:=by
 have cF:(a*b).natAbs<=(A*B).natAbs:=by
  rw[Int.natAbs_mul,Int.natAbs_mul];exact Nat.mul_le_mul (by omega) (by omega)
 have hA:0<=A*B:=lg (by omega) (by omega);omega
theorem yS{v z w:Int}(hv:-128<=v/\v<=127)(hz:-128<=z/\z<=127)(hw:-128<=w/\w<=127):-32640<=(v-z)*w/\(v-z)*w<=32640:=
 kR (A:=255) (B:=128) (by omega) (by omega)
theorem kx.iO{j:J}(h:kx j)(u v shift first:Int)(i p k:Nat):-32640<=iO j u v shift first i p k/\iO j u v shift first i p k<=32640:=
 yS (h.a.at _ _ _) ⟨h.a.z0,h.a.z1⟩ (h.w.at _ _ _)
theorem kx.part{j:J}(h:kx j)(u v o shift first:Int){n i p k:Nat}(hn:n<=255)(hi:i<=255)(hp:p<=255)(hk:k<=255):-1000000000000<=part j u v o shift first n i p k/\part j u v o shift first n i p k<=1000000000000:=by
 have b:=h.bi.jZ o;have s1:∀i p k,k<=255->-8323200<=D.S (O.iO j u v shift first i p) k/\D.S (O.iO j u v shift first i p) k<=8323200:=fun i p k hk=>yR (B:=32640) hk (by decide) fun q _=>h.iO u v shift first i p q;have s2:∀i p,p<=255->-2122416000<=D.S (fun p=>D.S (O.iO j u v shift first i p) n) p/\D.S (fun p=>D.S (O.iO j u v shift first i p) n) p<=2122416000:=fun i p hp=>yR (B:=8323200) hp (by decide) fun q _=>s1 i q n hn;have hW:j.aP.w.toNat<=255:=by have:=h.w.w1;omega
 have s3:-541216080000<=D.S (fun i=>D.S (fun p=>D.S (O.iO j u v shift first i p) n) j.aP.w.toNat) i/\D.S (fun i=>D.S (fun p=>D.S (O.iO j u v shift first i p) n) j.aP.w.toNat) i<=541216080000:=yR (B:=2122416000) hi (by decide) fun q _=>s2 q _ hW;have t1:=s1 i p k hk;have t2:=s2 i p hp;unfold O.part;omega
theorem akv(j:J)(u v o shift first:Int)(n i p k:Nat):part j u v o shift first n i p (k+1)=part j u v o shift first n i p k+iO j u v shift first i p k:=by
 unfold part;rw[D.S];omega
theorem akw(j:J)(u v o shift first:Int)(n i p:Nat):part j u v o shift first n i (p+1) 0=part j u v o shift first n i p n:=by
 unfold part;simp only[D.S];omega
theorem akx(j:J)(u v o shift first:Int)(n i:Nat):part j u v o shift first n (i+1) 0 0=part j u v o shift first n i j.aP.w.toNat 0:=by
 unfold part;simp only[D.S];omega
theorem kx.vI{j:J}(h:kx j)(y x o first kO shift:Int)(hn:j.aP.h*j.aP.w*(kO-first)<=512)(hf:first<=kO):-1090453504<=Ar j y x o first kO shift/\Ar j y x o first kO shift<=1090453504:=by
 have b:=h.bi.jZ o;unfold Ar;rw[Xw];generalize um j y=u;generalize left j x=v;have s1:∀i p,-(((kO-first).toNat:Int)*32640)<=D.S (O.iO j u v shift first i p) (kO-first).toNat/\D.S (O.iO j u v shift first i p) (kO-first).toNat<=((kO-first).toNat:Int)*32640:=fun i p=>IT fun q _=>h.iO u v shift first i p q;have s2:∀i,-((j.aP.w.toNat:Int)*(((kO-first).toNat:Int)*32640))<=D.S (fun p=>D.S (O.iO j u v shift first i p) (kO-first).toNat) j.aP.w.toNat/\D.S (fun p=>D.S (O.iO j u v shift first i p) (kO-first).toNat) j.aP.w.toNat<=(j.aP.w.toNat:Int)*(((kO-first).toNat:Int)*32640):=fun i=>IT fun q _=>s1 i q;have s3:=IT (n:=j.aP.h.toNat) fun q _=>s2 q;have e:(j.aP.h.toNat:Int)*((j.aP.w.toNat:Int)*(((kO-first).toNat:Int)*32640))<=16711680:=by
  have h0:=h.w.h0;have w0:=h.w.w0;rw[uw h0,uw w0,uw (by omega),<-Int.mul_assoc,<-Int.mul_assoc];have:j.aP.h*j.aP.w*(kO-first)*32640<=512*32640:=Int.mul_le_mul_of_nonneg_right hn (by decide);exact this
 omega
theorem kx.all{j:J}(h:kx j)(o:Int){n:Nat}(hn:n<=512)(hl:n<=j.a.cells.length):-1090453504<=kE j o n/\kE j o n<=1090453504:=by
 have b:=h.bi.jZ o;have s:=yR (n:=n) (N:=512) (B:=32640) (f:=fun i:Nat=>(j.a.cells.getD i 0-j.a.zero)*bN j.aP o 0 (i:Int)) hn (by decide) fun i hi=>by
  refine yS ?_ ⟨h.a.z0,h.a.z1⟩ (h.w.at _ _ _);have hl:i<j.a.cells.length:=by omega
  rw[List.getD,aS hl];exact h.a.cells _ (List.getElem_mem hl)
 unfold kE;omega
theorem jQ.lR{m:M.Md}{o:M.Op}{la lb:List Int}(F:jQ m o la lb)(hk:o.af=1\/o.af=2):(M.aq m o.aP).h*(M.aq m o.aP).w*(if o.af=1 then (M.aq m o.a).c else 1)<=512:=by
 have hW:M.cm o.af=true:=by rw[ku];omega
 obtain⟨-,-,-,s4,s5⟩:=Q3 (Q4 F.bT hk);have w:=F.w hW;have hm:=w.mn;unfold M.cellsOf at hm;have p:0<=(M.aq m o.aP).h*(M.aq m o.aP).w:=lg (by have:=w.h0;omega) (by have:=w.w0;omega);refine Int.le_trans (Int.mul_le_mul_of_nonneg_left ?_ p) hm
 split
 ·rename_i k1
  rw[s5 (by omega)];have:=F.a.c0;have:=F.z.c0;have:(M.aq m o.a).c*1<=(M.aq m o.a).c*(M.aq m o.to).c:=Int.mul_le_mul_of_nonneg_left (by omega) (by omega);omega
 ·have:=w.c0;omega
theorem B6{x lo hi:Int}(h:lo<=hi):lo<=R.cW x lo hi/\R.cW x lo hi<=hi:=D.B6 h
theorem BX(x:Int):-2147483648<=held x/\held x<=2147483647:=D.B6 (by decide)
theorem Q9{k:Nat}{K:Nat}(h:k<=K):(1:Int)<=2 ^ k/\(2:Int) ^ k<=2 ^ K:=by
 have h1:(0:Int)<2 ^ k:=Xs k;refine⟨by omega,?_⟩;have:(2:Nat) ^ k<=2 ^ K:=Nat.pow_le_pow_right (by decide) h;have e:((2 ^ k:Nat):Int)<=((2 ^ K:Nat):Int):=by exact_mod_cast this
 simpa using e
theorem aky{x n:Int}(hx:-2147483648<=x/\x<=2147483647)(hn:2<=n\/n=1):-2147483648<=oV x n/\oV x n<=2147483648:=by
 unfold oV;rw[ak (by omega)];have cF:∀t:Int,0<=t->t<=2147483648->0<=(t+n/2)/n/\(t+n/2)/n<=2147483648:=by
  intro t h0 h1;have IU:0<n:=by omega
  refine⟨Int.ediv_nonneg (by omega) (by omega),?_⟩
  apply Int.le_of_lt_add_one
  apply Int.ediv_lt_of_lt_mul IU
  have:(2147483648+1)*1<=(2147483648+1)*n:=Int.mul_le_mul_of_nonneg_left (by omega) (by decide);rcases hn with h|h
  ·have:t+n/2<(t+1)*n:=by
    have e:t*1<=t*n:=Int.mul_le_mul_of_nonneg_left (by omega) h0;rw[Int.add_mul];omega
   have e2:(t+1)*n<=(2147483648+1)*n:=Int.mul_le_mul_of_nonneg_right (by omega) (by omega);omega
  ·subst h;omega
 split
 ·have:=cF (-x) (by omega) (by omega);omega
 ·have:=cF x (by omega) (by omega);omega
theorem Cf{x:Int}{c:M.Sc}(hs:-31<=c.shift):-2147483648<=iN x c/\iN x c<=2147483648:=by
 unfold iN;have h:=BX ((oS x c.shift*c.eF+1073741824)/2147483648)
 split
 ·rename_i k
  have hp:=Q9 (k:=(-c.shift).toNat) (K:=31) (by omega);exact aky h (by omega)
 ·unfold rM;omega
theorem kx.jD{j:J}(h:kx j)(x:Int)(k:Nat):-2147483648<=jD j x k/\jD j x k<=2147483648:=by
 unfold O.jD
 cases e:j.op.bM[k]? with
 | none=>show(-2147483648:Int)<=0/\(0:Int)<=2147483648;omega
 | some c=>exact Cf (h.bM c (bU e)).2.2.1
end O
namespace H
def cM(o:M.Op):List Int:=if M.cm o.af=true then [o.a,o.aP,o.bC] else if M.dr o.af=true then [o.a,o.b] else [o.a]
def te(o:M.Op):Bool:=decide (1<=o.af)&&decide (o.af<=7)
def iQ(os:List M.Op)(n:Int):Nat:=(os.flatMap cM).count n
def cJ(m:M.Md)(n:Int):Nat:=iQ m.ag n+m.aK.count n
def pF(t:M.Tn):Bool:=!(t.af==0||t.af==3)
def rP(m:M.Md)(o:M.Op):Bool:=(cM o).all fun n=>pF (M.aq m n)
def oX(m:M.Md)(n:Int)(l:List Int):M.Md:={ m with au:=m.au.set n.toNat { M.aq m n with af:=1,data:=l } }
def nK(s:M.Md×List M.Op)(o:M.Op):M.Md×List M.Op:=
 if rP s.1 o=true then (oX s.1 o.to (O.iu s.1 o (M.aq s.1 o.a).data (M.aq s.1 o.b).data),s.2) else (s.1,s.2++[o])
def iR(m:M.Md):M.Md:=let r:=m.ag.foldl nK (m,[]);{ r.1 with ag:=r.2 }
def kF(m:M.Md)(i:Nat):M.Md:=match m.ag[i]? with
 | some o=>if cJ m o.to=0 then { m with ag:=m.ag.eraseIdx i } else m
 | none=>m
def rQ:Nat->M.Md->M.Md
 | 0,m=>m
 | i+1,m=>rQ i (kF m i)
def drop(m:M.Md):M.Md:=rQ m.ag.length m
def eV(s c:M.Op):M.Op:={ s with to:=c.to,lo:=R.cW s.lo c.lo c.hi,hi:=R.cW s.hi c.lo c.hi }
def vK(o s:M.Op):Bool:=te s&&s.to==o.a
def oy(m:M.Md)(left:List M.Op)(o:M.Op):Option Nat:=if o.af=7/\cJ m o.a=1 then left.findIdx? (vK o) else none
def joinStep(m:M.Md)(left:List M.Op)(o:M.Op):List M.Op:=match oy m left o with
 | some i=>left.modify i fun s=>eV s o
 | none=>left++[o]
def oY(m:M.Md):M.Md:={ m with ag:=m.ag.foldl (joinStep m) [] }
def Au(m:M.Md)(n:Nat)(t:M.Tn):M.Tn:=if cJ m n=0 then { t with data:=[] } else t
def mP(m:M.Md):M.Md:={ m with au:=m.au.mapIdx (Au m) }
def jE(m:M.Md):M.Md:=mP (oY (drop (iR m)))
structure mq(m m':M.Md):Prop where
 len:m'.au.length=m.au.length
 h:∀n,(M.aq m' n).h=(M.aq m n).h
 w:∀n,(M.aq m' n).w=(M.aq m n).w
 c:∀n,(M.aq m' n).c=(M.aq m n).c
 zero:∀n,(M.aq m' n).zero=(M.aq m n).zero
theorem mq.refl(m:M.Md):mq m m:=⟨rfl,fun _=>rfl,fun _=>rfl,fun _=>rfl,fun _=>rfl⟩
theorem mq.cells{m m':M.Md}(d:mq m m')(n:Int):M.cellsOf (M.aq m' n)=M.cellsOf (M.aq m n):=by
 unfold M.cellsOf;rw[d.h,d.w,d.c]
theorem mq.kQ{m m':M.Md}(d:mq m m'){n:Int}(h:O.uo (M.aq m n)):O.uo (M.aq m' n):=
 ⟨by rw[d.h];exact h.h0,by rw[d.h];exact h.h1,by rw[d.w];exact h.w0,by rw[d.w];exact h.w1,by rw[d.c];exact h.c0,by rw[d.c];exact h.c1,by rw[d.cells];exact h.mn,by rw[d.zero];exact h.z0,by rw[d.zero];exact h.z1⟩
def pG(t:M.Tn):M.Tn:=⟨0,t.h,t.w,t.c,0,[]⟩
def XC(o:M.Op)(a b w bi z:M.Tn):Bool:=
 if o.af=1\/o.af=2 then M.qe o a w bi z
 else if o.af=3 then M.qL a w bi z
 else if o.af=4 then M.kY a z&&M.kY b z
 else if o.af=7 then M.kY a z
 else if o.af=5\/o.af=6 then M.rG o a z
 else if o.af=8 then z.h==a.h+o.aT+o.below&&z.w==a.w+o.left+o.right&&z.c==a.c
 else if o.af=9 then M.cellsOf a==M.cellsOf z
 else if o.af=10 then a.h==b.h&&a.w==b.w&&z.h==a.h&&z.w==a.w&&z.c==a.c+b.c
 else false
theorem MT(m:M.Md)(o:M.Op):M.bT m o=XC o (pG (M.aq m o.a)) (pG (M.aq m o.b)) (pG (M.aq m o.aP)) (pG (M.aq m o.bC)) (pG (M.aq m o.to)):=rfl
theorem mq.pG{m m':M.Md}(d:mq m m')(n:Int):pG (M.aq m' n)=pG (M.aq m n):=by unfold H.pG;rw[d.h,d.w,d.c]
theorem mq.bT{m m':M.Md}(d:mq m m')(o:M.Op):M.bT m' o=M.bT m o:=by
 rw[MT,MT,d.pG,d.pG,d.pG,d.pG,d.pG]
theorem mq.ur{m m':M.Md}(d:mq m m')(o:M.Op):M.kB m' o=M.kB m o:=by
 have zd:=d.zero;simp only[M.kB,M.jV,zd]
theorem XD(o:M.Op)(a b w bi:O.G)(t t':M.Tn)(h1:t'.h=t.h)(h2:t'.w=t.w)(h3:t'.c=t.c)(h4:t'.zero=t.zero)(y x k:Int) :
  O.cell ⟨o,a,b,w,bi,t'⟩ y x k=O.cell ⟨o,a,b,w,bi,t⟩ y x k:=by
 have e:∀u:M.Tn,O.cell ⟨o,a,b,w,bi,u⟩ y x k=O.cell ⟨o,a,b,w,bi,⟨0,u.h,u.w,u.c,u.zero,[]⟩⟩ y x k:=fun _=>rfl;rw[e t',e t,h1,h2,h3,h4]
theorem MU{t t':M.Tn}(h1:t'.h=t.h)(h2:t'.w=t.w)(h3:t'.c=t.c)(h4:t'.zero=t.zero)(l:List Int):O.fg t' l=O.fg t l:=by
 unfold O.fg;rw[h1,h2,h3,h4]
theorem mq.iu{m m':M.Md}(d:mq m m'){o:M.Op}(hW:M.cm o.af=true->(M.aq m' o.aP).data=(M.aq m o.aP).data/\(M.aq m' o.bC).data=(M.aq m o.bC).data)(la lb:List Int) :
  O.iu m' o la lb=O.iu m o la lb:=by
 unfold O.iu D.oT;rw[d.cells,d.w,d.c]
 apply List.map_congr_left
 intro q _;unfold O.start;rw[XD (t:=M.aq m o.to) (h1:=d.h _) (h2:=d.w _) (h3:=d.c _) (h4:=d.zero _),MU (d.h _) (d.w _) (d.c _) (d.zero _),MU (d.h _) (d.w _) (d.c _) (d.zero _)];by_cases h:M.cm o.af=true
 ·obtain⟨e1,e2⟩:=hW h
  rw[MU (d.h _) (d.w _) (d.c _) (d.zero _),MU (t':=M.aq m' o.bC) (d.h _) (d.w _) (d.c _) (d.zero _),e1,e2]
 ·rw[ak h,ak h,ak h,ak h]
theorem Rb(m:M.Md){o:M.Op}(h:M.dr o.af=false)(la lb Rc:List Int):O.iu m o la lb=O.iu m o la Rc:=by
 unfold O.iu O.start;simp only[h,Bool.false_eq_true,if_false]
theorem Re{m:M.Md}{o:M.Op}{la lb Rc:List Int}(F:O.jQ m o la lb)(h:M.dr o.af=false):O.jQ m o la Rc:=
 ⟨F.dQ,F.bT,F.ur,F.z,F.a,F.na,F.ca,F.b,fun h'=>by rw[h] at h';exact aN h' (by decide),fun h'=>by rw[h] at h';exact aN h' (by decide),F.w,F.lw,F.cw,F.bi,F.li,F.ci⟩
theorem mq.Ce{m m':M.Md}(d:mq m m'){o:M.Op}{la lb:List Int}(F:O.jQ m o la lb)
  (hW:M.cm o.af=true->(M.aq m' o.aP).data=(M.aq m o.aP).data/\(M.aq m' o.bC).data=(M.aq m o.bC).data):O.jQ m' o la lb:=
 ⟨F.dQ,by rw[d.bT];exact F.bT,by rw[d.ur];exact F.ur,d.kQ F.z,d.kQ F.a,by rw[d.cells];exact F.na,F.ca,fun h=>d.kQ (F.b h),fun h=>by rw[d.cells];exact F.nb h,F.cb,
  fun h=>d.kQ (F.w h),fun h=>by rw[(hW h).1,d.cells];exact F.lw h,fun h=>by rw[(hW h).1];exact F.cw h,fun h=>d.kQ (F.bi h),fun h=>by rw[(hW h).2,d.cells];exact F.li h,fun h=>by rw[(hW h).2];exact F.ci h⟩
def Av(m:M.Md)(S:List Int)(n:Int):Prop:=0<=n/\n<m.au.length/\((M.aq m n).af=3->n∈S)
def Ord(m:M.Md):List Int->List M.Op->Prop
 | _,[]=>True
 | S,o::os=>(∀n∈cM o,Av m S n)/\Ord m (S++[o.to]) os
theorem Ord.congr{m m':M.Md}(hl:m'.au.length=m.au.length):∀{os:List M.Op} {S S':List Int},Ord m S os ->
  (∀o∈os,∀n∈cM o,(M.aq m' n).af=3->(M.aq m n).af=3/\(n∈S->n∈S'))->Ord m' S' os
 | [],_,_,_,_=>trivial
 | o::os,S,S',h,hc=>by
  refine⟨fun n hn=>⟨(h.1 n hn).1,by rw[hl];exact(h.1 n hn).2.1,fun k=>?_⟩,Ord.congr hl h.2 fun p hp n hn k=>?_⟩
  ·obtain⟨k',f⟩:=hc o pC n hn k
   exact f ((h.1 n hn).2.2 k')
  ·obtain⟨k',f⟩:=hc p (sZ _ hp) n hn k
   refine⟨k',fun hs=>?_⟩;rcases List.mem_append.mp hs with h1|h1
   ·exact List.mem_append_left _ (f h1)
   ·exact List.mem_append_right _ h1
theorem Ord.append{m:M.Md}:∀{a b:List M.Op} {S:List Int},Ord m S (a++b)↔Ord m S a/\Ord m (S++a.map (·.to)) b
 | [],b,S=>by simp[Ord]
 | o::a,b,S=>by
  show((∀n∈cM o,Av m S n)/\Ord m (S++[o.to]) (a++b))↔((∀n∈cM o,Av m S n)/\Ord m (S++[o.to]) a)/\Ord m (S++(o.to::a.map (·.to))) b;rw[Ord.append (a:=a),j8,List.singleton_append,and_assoc]
theorem tf{m:M.Md}{n:Int}:0<cJ m n↔(∃o∈m.ag,n∈cM o)\/n∈m.aK:=by
 unfold cJ iQ
 constructor
 ·intro h
  by_cases h1:0<(m.ag.flatMap cM).count n
  ·exact .inl (List.mem_flatMap.mp (List.count_pos_iff.mp h1))
  ·exact .inr (List.count_pos_iff.mp (by omega))
 ·rintro (h|h)
  ·have:=List.count_pos_iff.mpr (List.mem_flatMap.mpr h);omega
  ·have:=List.count_pos_iff.mpr h;omega
theorem vL(o:M.Op):o.a∈cM o:=by unfold cM;split<;>(try split)<;>simp
theorem Rf{o:M.Op}(h:M.dr o.af=true)(hw:M.cm o.af=false):o.b∈cM o:=by
 unfold cM;rw[ak (by rw[hw];decide),ay h];simp
theorem XE{o:M.Op}(h:M.cm o.af=true):o.aP∈cM o/\o.bC∈cM o:=by
 unfold cM;rw[ay h];simp
theorem Rg{k:Int}(h:M.dr k=true):M.cm k=false:=by
 unfold M.dr at h;unfold M.cm;simp only[Bool.or_eq_true,beq_iff_eq] at h;rcases h with rfl|rfl<;>decide
theorem akz{o:M.Op}{n:Int}(h:n∈cM o):n=o.a\/(M.dr o.af=true/\n=o.b)\/(M.cm o.af=true/\(n=o.aP\/n=o.bC)):=by
 unfold cM at h;by_cases h1:M.cm o.af=true
 ·rw[ay h1] at h;simp at h;rcases h with h|h|h
  ·exact .inl h
  ·exact .inr (.inr ⟨h1,.inl h⟩)
  ·exact .inr (.inr ⟨h1,.inr h⟩)
 ·rw[ak h1] at h
  by_cases h2:M.dr o.af=true
  ·rw[ay h2] at h;simp at h;rcases h with h|h
   ·exact .inl h
   ·exact .inr (.inl ⟨h2,h⟩)
  ·rw[ak h2] at h;simp at h;exact .inl h
structure dH(m:M.Md)(C:List (List Int)):Prop where
 nt:m.au.length<=24
 no:m.ag.length<=16
 nu:m.aK.length<=255
 Cg:∀n:Int,0<=n->n<m.au.length->0<=(M.aq m n).af/\(M.aq m n).af<=3
 kQ:∀n:Int,0<=n->n<m.au.length->O.uo (M.aq m n)
 fi:∀o∈m.ag,O.jQ m o (D.bW C o.a) (D.bW C o.b)
 eq:∀o∈m.ag,D.bW C o.to=O.iu m o (D.bW C o.a) (D.bW C o.b)
 to:∀o∈m.ag,0<=o.to/\o.to<m.au.length/\(M.aq m o.to).af=3
 nd:(m.ag.map (·.to)).Nodup
 xC:Ord m [] m.ag
 Aw:∀o∈m.ag,(M.aq m o.a).af≠2/\(M.dr o.af=true->(M.aq m o.b).af≠2)
 ws:∀o∈m.ag,M.cm o.af=true->(M.aq m o.aP).af=1/\(M.aq m o.bC).af=2
 aK:∀n∈m.aK,Av m (m.ag.map (·.to)) n/\(M.aq m n).af≠2
 data:∀n:Int,0<cJ m n->(M.aq m n).af=1->D.bW C n=(M.aq m n).data
 s9:∀n:Int,0<=n->n<m.au.length->(M.aq m n).af≠2->((D.bW C n).length:Int)=M.cellsOf (M.aq m n)
 cells:∀n:Int,0<=n->n<m.au.length->(M.aq m n).af≠2->D.kq (D.bW C n)
theorem dH.av{m:M.Md}{C:List (List Int)}(s:dH m C){o:M.Op}(ho:o∈m.ag){n:Int}(hn:n∈cM o):Av m (m.ag.map (·.to)) n:=by
 obtain⟨l,r,e⟩:=List.append_of_mem ho;have h:=s.xC;rw[e] at h;have:=(Ord.append.mp h).2.1 n hn;refine⟨this.1,this.2.1,fun k=>?_⟩;rw[e,lK];exact List.mem_append_left _ (by simpa using this.2.2 k)
theorem MV{m:M.Md}{n:Int}(l:List Int)(h0:0<=n)(h1:n<m.au.length)(k:Int):M.aq (oX m n l) k=if k=n then { M.aq m n with af:=1,data:=l } else M.aq m k:=by
 unfold oX;by_cases e:k=n
 ·subst e
  rw[ay rfl]
  conv=>lhs;unfold M.aq
  simp only[kK];rw[ak (by omega),D.yO,ay ⟨rfl,by omega⟩]
  rfl
 ·rw[ak e]
  conv=>lhs;unfold M.aq
  conv=>rhs;unfold M.aq
  simp only[kK];by_cases c:k<0\/(m.au.length:Int)<=k
  ·rw[ay c,ay c]
  ·rw[ak c,ak c,D.yO,ak (by omega)]
theorem akA{m:M.Md}{n:Int}(l:List Int)(h0:0<=n)(h1:n<m.au.length):mq m (oX m n l):=by
 refine⟨by simp[oX],fun k=>?_,fun k=>?_,fun k=>?_,fun k=>?_⟩<;>rw[MV l h0 h1]<;>split<;>simp_all
theorem vM(a b:List M.Op)(o:M.Op)(n:Int):iQ (a++o::b) n=iQ (a++b) n+(cM o).count n:=by
 unfold iQ;simp[List.flatMap_append,List.count_append];omega
theorem mq.XF{m m':M.Md}(d:mq m m')(os:List M.Op):mq m { m' with ag:=os }:=⟨d.len,d.h,d.w,d.c,d.zero⟩
theorem dH.MW{m:M.Md}{C:List (List Int)}(s:dH m C){l r:List M.Op}{o:M.Op}(e:m.ag=l++o::r)(hk:rP m o=true) :
  O.iu m o (M.aq m o.a).data (M.aq m o.b).data=D.bW C o.to/\dH { oX m o.to (D.bW C o.to) with ag:=l++r } C:=by
 have ho:o∈m.ag:=by rw[e];simp
 have kn:∀n∈cM o,(M.aq m n).af≠0/\(M.aq m n).af≠3:=by
  intro n hn;have:=List.all_eq_true.mp hk n hn;unfold pF at this
  simpa using this
 have u:∀n∈cM o,0<cJ m n:=fun n hn=>tf.mpr (.inl ⟨o,ho,hn⟩);have k1:∀n∈cM o,(M.aq m n).af≠2->(M.aq m n).af=1:=by
  intro n hn h2;have a:=s.av ho hn;have:=kn n hn;have:=s.Cg n a.1 a.2.1;omega
 have n2:=s.Aw o ho;obtain⟨t0,t1,t3⟩:=s.to o ho;have da:=s.data o.a (u _ (vL o)) (k1 _ (vL o) n2.1);refine⟨?_,?_⟩
 ·rw[s.eq o ho,<-da]
  cases h2:M.dr o.af with
  | false=>exact Rb m h2 _ _ _
  | true=>
   have hb:=Rf h2 (Rg h2);rw[<-s.data o.b (u _ hb) (k1 _ hb (n2.2 h2))]
 ·have d:=(akA (m:=m) (D.bW C o.to) t0 t1).XF (l++r)
  have sub:∀p∈l++r,p∈m.ag:=fun p hp=>by rw[e];simp at hp ⊢;rcases hp with h|h<;>simp[h]
  have nd:=s.nd;rw[e,lK,List.map_cons] at nd;have ne:∀p∈l++r,p.to≠o.to:=by
   intro p hp he;have h1:=(List.nodup_append.mp nd).2.1;have h2:=(List.nodup_cons.mp h1).1;have h3:=(List.nodup_append.mp nd).2.2;rcases List.mem_append.mp hp with h|h
   ·exact h3 _ (List.mem_map_of_mem h) _ (by rw[he];exact pC) rfl
   ·exact h2 (he ▸ List.mem_map_of_mem h)
  have xD:∀k:Int,M.aq { oX m o.to (D.bW C o.to) with ag:=l++r } k=if k=o.to then { M.aq m o.to with af:=1,data:=D.bW C o.to } else M.aq m k:=fun k=>MV (m:=m) _ t0 t1 k;have kk:∀n:Int,(M.aq m n).af≠3->M.aq { oX m o.to (D.bW C o.to) with ag:=l++r } n=M.aq m n:=by
   intro n h3;rw[xD,ak (fun h=>h3 (by rw[h];exact t3))]
  have k3:∀n:Int,(M.aq { oX m o.to (D.bW C o.to) with ag:=l++r } n).af=3->n≠o.to/\(M.aq m n).af=3:=by
   intro n h;rw[xD] at h;by_cases c:n=o.to
   ·rw[ay c] at h;exact aN h (by show ¬((1:Int)=3);decide)
   ·rw[ak c] at h;exact⟨c,h⟩
  have hW:∀p∈l++r,M.cm p.af=true->(M.aq { oX m o.to (D.bW C o.to) with ag:=l++r } p.aP).data=(M.aq m p.aP).data/\(M.aq { oX m o.to (D.bW C o.to) with ag:=l++r } p.bC).data=(M.aq m p.bC).data:=by
   intro p hp h;have:=s.ws p (sub p hp) h;exact⟨by rw[kk _ (by omega)],by rw[kk _ (by omega)]⟩
  have IV:∀n:Int,(M.aq { oX m o.to (D.bW C o.to) with ag:=l++r } n).af≠2↔(M.aq m n).af≠2:=by
   intro n;rw[xD]
   split
   ·rename_i h;subst h;rw[t3];simp
   ·rfl
  have ul:∀n,cJ { oX m o.to (D.bW C o.to) with ag:=l++r } n<=cJ m n:=by
   intro n;unfold cJ;rw[e,vM];show iQ (l++r) n+m.aK.count n<=_;omega
  refine⟨by rw[d.len];exact s.nt,?_,s.nu,fun n h0 h1=>?_,fun n h0 h1=>d.kQ (s.kQ n h0 (by rw[d.len] at h1;exact h1)),fun p hp=>d.Ce (s.fi p (sub p hp)) (hW p hp),fun p hp=>?_,fun p hp=>?_,?_,?_,fun p hp=>?_,fun p hp h=>?_,fun n hn=>?_,fun n h0 h1=>?_,fun n h0 h1 h2=>?_,fun n h0 h1 h2=>?_⟩
  ·have:=s.no;rw[e] at this;simp at this ⊢;omega
  ·rw[d.len] at h1
   have:=s.Cg n h0 h1;rw[xD];split
   ·show(0:Int)<=1/\(1:Int)<=3;decide
   ·exact this
  ·rw[d.iu (hW p hp)];exact s.eq p (sub p hp)
  ·obtain⟨p0,p1,p3⟩:=s.to p (sub p hp)
   refine⟨p0,by rw[d.len];exact p1,?_⟩;rw[xD,ak (ne p hp)];exact p3
  ·show((l++r).map (·.to)).Nodup
   rw[lK];exact List.Nodup.sublist (List.Sublist.append_left (List.sublist_cons_self _ _) _) nd
  ·have ho:=s.xC
   rw[e] at ho;obtain⟨o1,-,o3⟩:=Ord.append.mp ho;refine Ord.append.mpr ⟨Ord.congr d.len o1 fun p hp n hn k=>⟨(k3 n k).2,id⟩,Ord.congr d.len o3 fun p hp n hn k=>⟨(k3 n k).2,fun hs=>?_⟩⟩;rcases List.mem_append.mp hs with h|h
   ·exact h
   ·exact aN (List.mem_singleton.mp h) (k3 n k).1
  ·have:=s.Aw p (sub p hp)
   exact⟨(IV _).mpr this.1,fun h=>(IV _).mpr (this.2 h)⟩
  ·have:=s.ws p (sub p hp) h
   rw[kk _ (by omega),kk _ (by omega)];exact this
  ·obtain⟨a,h2⟩:=s.aK n hn
   refine⟨⟨a.1,by rw[d.len];exact a.2.1,fun k=>?_⟩,(IV _).mpr h2⟩;obtain⟨c,k'⟩:=k3 n k;have:=a.2.2 k';rw[e] at this;show n∈(l++r).map (·.to);simp only[lK,List.map_cons,Ax,List.mem_cons] at this ⊢;rcases this with h|h|h
   ·exact .inl h
   ·exact aN h c
   ·exact .inr h
  ·rw[xD] at h1 ⊢
   split
   ·rename_i h;rw[h]
   ·rename_i h
    rw[ak h] at h1;exact s.data n (qN h0 (ul n)) h1
  ·rw[d.len] at h1
   rw[d.cells];exact s.s9 n h0 h1 ((IV _).mp h2)
  ·rw[d.len] at h1
   exact s.cells n h0 h1 ((IV _).mp h2)
end H
end Go.Proofs.YtcnhfffgbamonaaGreat
