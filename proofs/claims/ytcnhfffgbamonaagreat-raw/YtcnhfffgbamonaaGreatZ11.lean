import Derived.Test.YtcnhfffgbamonaaGreatZ10
set_option maxRecDepth 100000
set_option maxHeartbeats 6400000
namespace Go.Proofs.YtcnhfffgbamonaaGreat
open Go.Proofs.Tryz
namespace H
def wo(m:M.Md)(os:List M.Op):M.Md:={ m with ag:=os }
theorem Rh(m:M.Md)(os:List M.Op):mq m (wo m os):=(mq.refl m).XF os
theorem Ri{m:M.Md}{o:M.Op}{la lb:List Int}(F:O.jQ m o la lb)(os:List M.Op):O.jQ (wo m os) o la lb:=(Rh m os).Ce F fun _=>⟨rfl,rfl⟩
theorem Rl{C:List (List Int)}:∀(rest:List M.Op) (m:M.Md) (left:List M.Op),dH (wo m (left++rest)) C ->
  dH (wo (rest.foldl nK (m,left)).1 (rest.foldl nK (m,left)).2) C
 | [],m,left,h=>by simpa using h
 | o::rest,m,left,h=>by
  rw[List.foldl_cons];unfold nK;by_cases hk:rP m o=true
  ·rw[ay hk]
   obtain⟨e,s⟩:=h.MW (l:=left) (r:=rest) (o:=o) rfl hk;have e':O.iu m o (M.aq m o.a).data (M.aq m o.b).data=D.bW C o.to:=e;rw[e'];exact Rl rest _ left s
  ·rw[ak hk]
   refine Rl rest m (left++[o]) ?_;rw[j8];exact h
theorem dH.iR{m:M.Md}{C:List (List Int)}(s:dH m C):dH (iR m) C:=Rl m.ag m [] s
theorem dH.akB{m:M.Md}{C:List (List Int)}(s:dH m C){l r:List M.Op}{o:M.Op}(e:m.ag=l++o::r)(hu:cJ m o.to=0):dH (wo m (l++r)) C:=by
 have d:=Rh m (l++r);have sub:∀p∈l++r,p∈m.ag:=fun p hp=>by rw[e];simp at hp ⊢;rcases hp with h|h<;>simp[h]
 have nu:∀n,0<cJ m n->n≠o.to:=fun n h h'=>by rw[h'] at h;omega
 have ul:∀n,cJ (wo m (l++r)) n<=cJ m n:=by
  intro n;unfold cJ;rw[e,vM];show iQ (l++r) n+m.aK.count n<=_;omega
 refine⟨s.nt,?_,s.nu,s.Cg,s.kQ,fun p hp=>Ri (s.fi p (sub p hp)) _,fun p hp=>s.eq p (sub p hp),fun p hp=>s.to p (sub p hp),?_,?_,fun p hp=>s.Aw p (sub p hp),fun p hp=>s.ws p (sub p hp),fun n hn=>?_,fun n h0 h1=>?_,s.s9,s.cells⟩
 ·have:=s.no;rw[e] at this;show(l++r).length<=16;simp at this ⊢;omega
 ·have nd:=s.nd
  rw[e,lK,List.map_cons] at nd;show((l++r).map (·.to)).Nodup;rw[lK];exact List.Nodup.sublist (List.Sublist.append_left (List.sublist_cons_self _ _) _) nd
 ·have ho:=s.xC
  rw[e] at ho;obtain⟨o1,-,o3⟩:=Ord.append.mp ho;refine Ord.append.mpr ⟨Ord.congr d.len o1 fun p hp n hn k=>⟨k,id⟩,Ord.congr d.len o3 fun p hp n hn k=>⟨k,fun hs=>?_⟩⟩;rcases List.mem_append.mp hs with h|h
  ·exact h
  ·refine aN (List.mem_singleton.mp h) (nu n (tf.mpr (.inl ⟨p,sub p (List.mem_append_right _ hp),hn⟩)))
 ·obtain⟨a,h2⟩:=s.aK n hn
  refine⟨⟨a.1,a.2.1,fun k=>?_⟩,h2⟩;have:=a.2.2 k;rw[e] at this;show n∈(l++r).map (·.to);simp only[lK,List.map_cons,Ax,List.mem_cons] at this ⊢;rcases this with h|h|h
  ·exact .inl h
  ·exact aN h (nu n (tf.mpr (.inr hn)))
  ·exact .inr h
 ·exact s.data n (qN h0 (ul n)) h1
theorem IW{l:List M.Op}{i:Nat}{o:M.Op}(h:l[i]?=some o):l=l.take i++o::l.drop (i+1)/\l.eraseIdx i=l.take i++l.drop (i+1):=by
 have hl:=M.bP h;refine⟨?_,List.eraseIdx_eq_take_drop_succ _ _⟩;rw[aS hl] at h;injection h with h;rw[<-h,List.getElem_cons_drop,List.take_append_drop]
theorem dH.kF{m:M.Md}{C:List (List Int)}(s:dH m C)(i:Nat):dH (kF m i) C:=by
 unfold H.kF
 cases h:m.ag[i]? with
 | none=>exact s
 | some o=>
  show dH (if cJ m o.to=0 then _ else _) C
  split
  ·rename_i hu
   obtain⟨e1,e2⟩:=IW h;rw[e2];exact s.akB e1 hu
  ·exact s
theorem dH.rQ{C:List (List Int)}:∀(i:Nat) {m:M.Md},dH m C->dH (rQ i m) C
 | 0,_,s=>s
 | i+1,_,s=>dH.rQ i (s.kF i)
theorem dH.drop{m:M.Md}{C:List (List Int)}(s:dH m C):dH (drop m) C:=s.rQ _
theorem akC{x y lo hi:Int}(h:x<=y)(hh:lo<=hi):R.cW x lo hi<=R.cW y lo hi:=by
 unfold R.cW;split<;>(try split)<;>(try split)<;>(try split)<;>omega
theorem akD{x lo hi a b:Int}(h:lo<=hi)(h':a<=b):R.cW (R.cW x lo hi) a b=R.cW x (R.cW lo a b) (R.cW hi a b):=by
 unfold R.cW;split<;>(try split)<;>(try split)<;>(try split)<;>(try split)<;>(try split)<;>(try split)<;>omega
theorem XG{o:M.Op}(h:te o=true):1<=o.af/\o.af<=7:=by
 unfold te at h;simpa using h
theorem akE{s c:M.Op}(hr:te s=true)(hs:s.lo<=s.hi)(hc:c.lo<=c.hi)(a b w bi:O.G)(t:M.Tn)(y x k:Int) :
  O.cell ⟨eV s c,a,b,w,bi,t⟩ y x k=R.cW (O.cell ⟨s,a,b,w,bi,t⟩ y x k) c.lo c.hi:=by
 have rr:∀v,O.uk ⟨eV s c,a,b,w,bi,t⟩ v=R.cW (O.uk ⟨s,a,b,w,bi,t⟩ v) c.lo c.hi:=fun v=>(akD hs hc).symm;have ok:=XG hr;have k1:(eV s c).af=s.af:=rfl;have oo:∀v k,O.out ⟨eV s c,a,b,w,bi,t⟩ v k=R.cW (O.out ⟨s,a,b,w,bi,t⟩ v k) c.lo c.hi:=fun v k=>rr _;unfold O.cell;show(if s.af=1 then _ else _)=R.cW (if s.af=1 then _ else _) _ _;by_cases h1:s.af=1
 ·rw[ay h1,ay h1];exact oo _ _
 rw[ak h1,ak h1];show(if s.af=2 then _ else _)=R.cW (if s.af=2 then _ else _) _ _;by_cases h2:s.af=2
 ·rw[ay h2,ay h2];exact oo _ _
 rw[ak h2,ak h2];show(if s.af=3 then _ else _)=R.cW (if s.af=3 then _ else _) _ _;by_cases h3:s.af=3
 ·rw[ay h3,ay h3];exact oo _ _
 rw[ak h3,ak h3];show(if s.af=4 then _ else _)=R.cW (if s.af=4 then _ else _) _ _;by_cases h4:s.af=4
 ·rw[ay h4,ay h4];exact oo _ _
 rw[ak h4,ak h4];show(if s.af=5\/s.af=6 then _ else _)=R.cW (if s.af=5\/s.af=6 then _ else _) _ _;by_cases h5:s.af=5\/s.af=6
 ·rw[ay h5,ay h5]
  unfold O.As;show(if s.af=5 then _ else _)=R.cW (if s.af=5 then _ else _) _ _
  split
  ·exact rr _
  ·exact rr _
 rw[ak h5,ak h5];show(if s.af=7 then _ else _)=R.cW (if s.af=7 then _ else _) _ _;rw[ay (by omega),ay (by omega)];exact rr _
theorem Fz{c:M.Op}(hk:c.af=7){m:M.Md}{la lb:List Int}{y x k:Int}:O.cell (O.start m c la lb) y x k=R.cW (O.bN (O.fg (M.aq m c.a) la) y x k) c.lo c.hi:=by
 unfold O.cell;show(if c.af=1 then _ else if c.af=2 then _ else if c.af=3 then _ else if c.af=4 then _ else if c.af=5\/c.af=6 then _ else if c.af=7 then _ else _)=_;rw[ak (by omega),ak (by omega),ak (by omega),ak (by omega),ak (by omega),ay hk]
 rfl
theorem akF{t:M.Tn}(d:O.uo t){q:Nat}(h:(q:Int)<M.cellsOf t):0<=(q:Int)/(t.w*t.c)/\(q:Int)/(t.w*t.c)<t.h/\0<=(q:Int)/t.c%t.w/\(q:Int)/t.c%t.w<t.w/\0<=(q:Int)%t.c/\(q:Int)%t.c<t.c /\
  ((q:Int)/(t.w*t.c)*t.w+(q:Int)/t.c%t.w)*t.c+(q:Int)%t.c=q:=by
 have hw:=d.w0;have hc:=d.c0;have IJ:0<t.w*t.c:=Int.mul_pos (by omega) (by omega);unfold M.cellsOf at h;refine⟨Int.ediv_nonneg (by omega) (by omega),Int.ediv_lt_of_lt_mul IJ (by rw[<-Int.mul_assoc];exact h),DS _ (by omega),DU _ (by omega),DS _ (by omega),DU _ (by omega),?_⟩;have e:(q:Int)/(t.w*t.c)=(q:Int)/t.c/t.w:=by rw[Int.mul_comm,Int.ediv_ediv_of_nonneg (by omega)]
 rw[e];have h1:=Int.mul_ediv_add_emod ((q:Int)/t.c) t.w;have h2:=Int.mul_ediv_add_emod (q:Int) t.c;rw[Int.mul_comm ((q:Int)/t.c/t.w) t.w,h1,Int.mul_comm ((q:Int)/t.c) t.c,h2]
theorem akG{s c:M.Op}(fs:kN s)(fc:kN c)(hr:te s=true)(hh:c.lo<=c.hi):kN (eV s c):=by
 have hb:=D.B6 (x:=s.lo) hh;have Ch:=D.B6 (x:=s.hi) hh;have l1:=fc.lo;have l2:=fc.hi;unfold qU at l1 l2;exact⟨fs.k0,fs.k1,fs.a,fs.b,fs.ws,fs.bs,fc.to,fs.QP,fs.aV,fs.size,fs.aE,fs.aT,fs.below,fs.left,fs.right,⟨by show -128<=R.cW _ _ _;omega,by show R.cW _ _ _<=127;omega⟩,⟨by show -128<=R.cW _ _ _;omega,by show R.cW _ _ _<=127;omega⟩,
  fs.ME,fs.IK,fs.MF,fs.MG,fun h=>aN (XG hr) h,fs.bM,fs.gI⟩
theorem dH.eV{m:M.Md}{C:List (List Int)}(S:dH m C){l mid rest:List M.Op}{s c:M.Op}(e:m.ag=l++s::(mid++c::rest))(hr:te s=true)(hk:c.af=7)(ha:s.to=c.a)(hu:cJ m c.a=1) :
  dH (wo m (l++eV s c::(mid++rest))) C:=by
 have hs:s∈m.ag:=by rw[e];simp
 have hc:c∈m.ag:=by rw[e];simp
 have d:=Rh m (l++H.eV s c::(mid++rest));have sub:∀p∈l++(mid++rest),p∈m.ag:=fun p hp=>by rw[e];simp at hp ⊢;rcases hp with h|h|h<;>simp[h]
 have Fs:=S.fi s hs;have Fc:=S.fi c hc;have cw:M.cm c.af=false:=by rw[hk];decide
 have c2:M.dr c.af=false:=by rw[hk];decide
 have rc:cM c=[c.a]:=by unfold cM;rw[ak (by rw[cw];decide),ak (by rw[c2];decide)]
 have qs:=Fs.ur;have qc:=Fc.ur;unfold M.kB at qs qc;simp only[eX,Bool.not_eq_true',decide_eq_false_iff_not] at qs qc;have XH:s.lo<=s.hi:=by have:=qs.1.1;omega
 have IX:c.lo<=c.hi:=by have:=qc.1.1;omega
 have al:(M.aq m c.a).h=(M.aq m c.to).h/\(M.aq m c.a).w=(M.aq m c.to).w/\(M.aq m c.a).c=(M.aq m c.to).c:=by
  have:=Fc.bT;unfold M.bT at this;simp only[hk] at this
  simpa[M.kY,and_assoc] using this
 have zz:(M.aq m c.a).zero=(M.aq m c.to).zero:=by
  have:=qc.2;unfold M.jV at this;rw[ak (by rw[cw];decide),ak (by omega)] at this;simp only[c2,Bool.false_eq_true,if_false,beq_iff_eq] at this;exact this
 have mj:∀la lb,O.iu m (H.eV s c) la lb=(O.iu m s la lb).map fun v=>R.cW v c.lo c.hi:=by
  intro la lb;unfold O.iu D.oT;rw[List.map_map];show(List.range (M.cellsOf (M.aq m c.to)).toNat).map (fun q:Nat=>O.cell (O.start m (H.eV s c) la lb) ((q:Int)/((M.aq m c.to).w*(M.aq m c.to).c)) ((q:Int)/(M.aq m c.to).c%(M.aq m c.to).w) ((q:Int)%(M.aq m c.to).c))=_;rw[ha];have ec:M.cellsOf (M.aq m c.to)=M.cellsOf (M.aq m c.a):=by unfold M.cellsOf;rw[al.1,al.2.1,al.2.2]
  rw[ec,<-al.2.1,<-al.2.2]
  apply List.map_congr_left
  intro q _;show O.cell ⟨H.eV s c,_,_,_,_,M.aq m c.to⟩ _ _ _=R.cW (O.cell ⟨s,_,_,_,_,M.aq m s.to⟩ _ _ _) _ _;rw[akE hr XH IX,ha,XD (t:=M.aq m c.a) (h1:=al.1.symm) (h2:=al.2.1.symm) (h3:=al.2.2.symm) (h4:=zz.symm)]
  rfl
 have mc:∀la lb,(la.length:Int)=M.cellsOf (M.aq m c.a)->O.iu m c la lb=la.map fun v=>R.cW v c.lo c.hi:=by
  intro la lb hl;unfold O.iu D.oT;have ec:M.cellsOf (M.aq m c.to)=M.cellsOf (M.aq m c.a):=by unfold M.cellsOf;rw[al.1,al.2.1,al.2.2]
  apply List.ext_getElem
  ·rw[jb,List.length_range,jb,ec];omega
  ·intro q h1 h2
   rw[List.getElem_map,List.getElem_map,List.getElem_range];have hq:q<la.length:=by simpa using h2
   have FB:(q:Int)<M.cellsOf (M.aq m c.to):=by rw[ec];omega
   rw[H.Fz hk]
   congr 1
   have dz:=Fc.z;obtain⟨p1,p2,p3,p4,p5,p6,p7⟩:=H.akF dz (q:=q) FB;rw[O.yQ (by rw[hl]) (by omega) (by rw[al.1];exact p2) (by omega) (by rw[al.2.1];exact p4) (by omega) (by rw[al.2.2];exact p6)];unfold D.bN D.get;rw[al.2.1,al.2.2,p7,ak (by omega),eC,List.getD,aS hq]
   rfl
 have ul:∀n,cJ (wo m (l++H.eV s c::(mid++rest))) n+(cM c).count n=cJ m n:=by
  intro n;unfold cJ;rw[e,vM l _ s,<-j8 l mid (c::rest),vM (l++mid) rest c];show iQ (l++H.eV s c::(mid++rest)) n+m.aK.count n+_=_;rw[vM,j8];show iQ (l++(mid++rest)) n+(cM s).count n+m.aK.count n+_=_;omega
 have only:∀n,0<cJ (wo m (l++H.eV s c::(mid++rest))) n->n≠s.to:=by
  intro n h he;have h1:=ul n;rw[he,ha,hu,rc] at h1;simp at h1;rw[he,ha] at h;omega
 have fj:O.jQ m (H.eV s c) (D.bW C s.a) (D.bW C s.b):=by
  have fo:=Fs.dQ;have Rm:=Fc.dQ;have hb:=D.B6 (x:=s.lo) IX;have Ch:=D.B6 (x:=s.hi) IX;have l1:=Rm.lo;have l2:=Rm.hi;refine⟨?_,?_,?_,Fc.z,Fs.a,Fs.na,Fs.ca,Fs.b,Fs.nb,Fs.cb,Fs.w,Fs.lw,Fs.cw,Fs.bi,Fs.li,Fs.ci⟩
  ·exact H.akG fo Rm hr IX
  ·rw[MT]
   have:=Fs.bT;rw[MT] at this;show XC s _ _ _ _ (pG (M.aq m c.to))=true;have ez:pG (M.aq m c.to)=pG (M.aq m s.to):=by unfold pG;rw[ha,al.1,al.2.1,al.2.2]
   rw[ez];exact this
  ·unfold M.kB
   simp only[eX,Bool.not_eq_true',decide_eq_false_iff_not];refine⟨⟨?_,qs.1.2⟩,?_⟩
   ·show ¬(R.cW s.hi c.lo c.hi<R.cW s.lo c.lo c.hi)
    have:=akC XH IX;omega
   ·have:=qs.2
    unfold M.jV at this ⊢;simp only[ha,zz] at this;exact this
 refine⟨S.nt,?_,S.nu,S.Cg,S.kQ,fun p hp=>?_,fun p hp=>?_,fun p hp=>?_,?_,?_,fun p hp=>?_,fun p hp=>?_,fun n hn=>?_,fun n h0 h1=>?_,S.s9,S.cells⟩
 ·have:=S.no;rw[e] at this;show(l++H.eV s c::(mid++rest)).length<=16;simp at this ⊢;omega
 ·rcases(show p∈l++(mid++rest)\/p=H.eV s c by simp[wo] at hp ⊢;rcases hp with h|h|h|h<;>simp[h]) with h|h
  ·exact Ri (S.fi p (sub p h)) _
  ·rw[h];exact Ri fj _
 ·rcases(show p∈l++(mid++rest)\/p=H.eV s c by simp[wo] at hp ⊢;rcases hp with h|h|h|h<;>simp[h]) with h|h
  ·exact S.eq p (sub p h)
  ·rw[h]
   show D.bW C c.to=O.iu m (H.eV s c) (D.bW C s.a) (D.bW C s.b);rw[mj,<-S.eq s hs,ha,S.eq c hc];exact mc _ _ Fc.na
 ·rcases(show p∈l++(mid++rest)\/p=H.eV s c by simp[wo] at hp ⊢;rcases hp with h|h|h|h<;>simp[h]) with h|h
  ·exact S.to p (sub p h)
  ·rw[h];exact S.to c hc
 ·have nd:=S.nd
  rw[e] at nd;show((l++H.eV s c::(mid++rest)).map (·.to)).Nodup;have pm:List.Perm ((l++H.eV s c::(mid++rest)).map (·.to)) ((l++(mid++c::rest)).map (·.to)):=by
   simp only[lK,List.map_cons];refine List.Perm.append_left _ ?_;exact(List.perm_middle (a:=c.to) (l₁:=mid.map (·.to)) (l₂:=rest.map (·.to))).symm
  refine pm.nodup_iff.mpr (List.Nodup.sublist ?_ nd);exact((List.sublist_cons_self s (mid++c::rest)).append_left l).map _
 ·have ho:=S.xC
  rw[e] at ho;obtain⟨o1,o2,o3⟩:=Ord.append.mp ho;obtain⟨o4,-,o6⟩:=Ord.append.mp o3;refine Ord.append.mpr ⟨Ord.congr d.len o1 fun p hp n hn k=>⟨k,id⟩,⟨fun n hn=>?_,Ord.append.mpr ⟨Ord.congr d.len o4 fun p hp n hn k=>⟨k,fun hs=>?_⟩,Ord.congr d.len o6 fun p hp n hn k=>⟨k,fun hs=>?_⟩⟩⟩⟩
  ·exact o2 n hn
  ·have:=only n (tf.mpr (.inl ⟨p,by show p∈_++_;simp[hp],hn⟩))
   simp only[Ax,XI] at hs ⊢;rcases hs with h|h
   ·exact .inl h
   ·exact aN h this
  ·have:=only n (tf.mpr (.inl ⟨p,by show p∈_++_;simp[hp],hn⟩))
   simp only[Ax,XI] at hs ⊢;rcases hs with((h|h)|h)|h
   ·exact .inl (.inl h)
   ·exact aN h this
   ·exact .inr h
   ·exact .inl (.inr h)
 ·rcases(show p∈l++(mid++rest)\/p=H.eV s c by simp[wo] at hp ⊢;rcases hp with h|h|h|h<;>simp[h]) with h|h
  ·exact S.Aw p (sub p h)
  ·rw[h];exact S.Aw s hs
 ·rcases(show p∈l++(mid++rest)\/p=H.eV s c by simp[wo] at hp ⊢;rcases hp with h|h|h|h<;>simp[h]) with h|h
  ·exact S.ws p (sub p h)
  ·rw[h];exact S.ws s hs
 ·obtain⟨a,h2⟩:=S.aK n hn
  refine⟨⟨a.1,a.2.1,fun k=>?_⟩,h2⟩;have h:=a.2.2 k;have:=only n (tf.mpr (.inr hn));rw[e] at h;show n∈(l++H.eV s c::(mid++rest)).map (·.to);simp only[lK,List.map_cons,Ax,List.mem_cons] at h ⊢;show _\/n=c.to\/_;rcases h with h|h|h|h|h
  ·exact .inl h
  ·exact aN h this
  ·exact .inr (.inr (.inl h))
  ·exact .inr (.inl h)
  ·exact .inr (.inr (.inr h))
 ·exact S.data n (by have:=ul n;omega) h1
end H
namespace H
theorem XJ(l mid:List M.Op)(s:M.Op)(f:M.Op->M.Op):(l++s::mid).modify l.length f=l++f s::mid:=by
 induction l with
 | nil=>rfl
 | cons a l ih=>show a::(l++s::mid).modify l.length f=_;rw[ih];rfl
theorem Rn{m:M.Md}{left:List M.Op}{o:M.Op}{i:Nat}(h:oy m left o=some i):o.af=7/\cJ m o.a=1/\∃s,left[i]?=some s/\te s=true/\s.to=o.a:=by
 unfold oy at h
 split at h
 ·rename_i hc
  obtain⟨hi,hp,-⟩:=List.findIdx?_eq_some_iff_getElem.mp h;unfold vK at hp;simp only[eX,beq_iff_eq] at hp;exact⟨hc.1,hc.2,_,aS hi,hp⟩
 ·exact aN h (by simp)
theorem Ro{m:M.Md}{C:List (List Int)}:∀(rest left:List M.Op),dH (wo m (left++rest)) C->(∀n,cJ (wo m (left++rest)) n<=cJ m n) ->
  dH (wo m (rest.foldl (joinStep m) left)) C/\∀n,cJ (wo m (rest.foldl (joinStep m) left)) n<=cJ m n
 | [],left,h,hu=>by rw[List.append_nil] at h;exact⟨h,fun n=>by have:=hu n;rwa [List.append_nil] at this⟩
 | o::rest,left,h,hu=>by
  rw[List.foldl_cons];have hs:joinStep m left o=match oy m left o with|some i=>left.modify i (fun s=>eV s o)|none=>left++[o]:=rfl
  cases hh:oy m left o with
  | none=>
   rw[hs,hh];refine Ro rest (left++[o]) ?_ fun n=>?_
   ·rw[j8];exact h
   ·have:=hu n;rw[j8];exact this
  | some i=>
   rw[hs,hh];obtain⟨k7,u1,s,hi,hr,ha⟩:=Rn hh;obtain⟨e,-⟩:=IW hi;have hl:i=(left.take i).length:=by rw[xE];have:=M.bP hi;omega
   generalize hL:left.take i=l at *;generalize left.drop (i+1)=mid at *;subst hl;subst e;show dH (wo m (rest.foldl (joinStep m) ((l++s::mid).modify l.length fun s=>eV s o))) C/\∀n,cJ (wo m (rest.foldl (joinStep m) ((l++s::mid).modify l.length fun s=>eV s o))) n<=cJ m n;rw[XJ];have e1:l++s::mid++o::rest=l++s::(mid++o::rest):=by simp
   have u2:cJ (wo m (l++s::mid++o::rest)) o.a=1:=by
    have h1:=hu o.a;have h2:0<cJ (wo m (l++s::mid++o::rest)) o.a:=tf.mpr (.inl ⟨o,by show o∈_++_;simp,vL o⟩);omega
   have J:=dH.eV h (l:=l) (mid:=mid) (rest:=rest) (s:=s) (c:=o) e1 hr k7 ha u2;refine Ro rest (l++eV s o::mid) ?_ fun n=>?_
   ·have e2:l++eV s o::mid++rest=l++eV s o::(mid++rest):=by simp
    rw[e2];exact J
   ·have h1:=hu n
    unfold cJ at h1 ⊢;have e2:l++eV s o::mid++rest=l++eV s o::(mid++rest):=by simp
    have b1:iQ (wo m (l++s::mid++o::rest)).ag n=iQ (l++(mid++rest)) n+(cM s).count n+(cM o).count n:=by
     show iQ (l++s::mid++o::rest) n=_;rw[e1,vM,<-j8 l mid,vM,j8];omega
    have b2:iQ (wo m (l++eV s o::mid++rest)).ag n=iQ (l++(mid++rest)) n+(cM s).count n:=by
     show iQ (l++eV s o::mid++rest) n=_;rw[e2,vM];rfl
    rw[b1] at h1;rw[b2];show _+m.aK.count n<=_;have h3:iQ (l++(mid++rest)) n+(cM s).count n+(cM o).count n+m.aK.count n<=iQ m.ag n+m.aK.count n:=h1;omega
theorem dH.oY{m:M.Md}{C:List (List Int)}(s:dH m C):dH (oY m) C:=(Ro m.ag [] s fun _=>bj _).1
theorem Rp(m:M.Md)(n:Int):M.aq (mP m) n=if 0<cJ m n then M.aq m n else { M.aq m n with data:=[] }:=by
 by_cases c:n<0\/(m.au.length:Int)<=n
 ·have e:M.aq m n=M.vx:=by unfold M.aq;rw[ay c]
  have e':M.aq (mP m) n=M.vx:=by unfold M.aq;rw[ay (by show n<0\/((m.au.mapIdx (Au m)).length:Int)<=n;rw[List.length_mapIdx];exact c)]
  rw[e,e'];split<;>rfl
 ·obtain⟨k,rfl⟩:=fT (show 0<=n by omega)
  have hk:k<m.au.length:=by omega
  have e:M.aq m k=m.au[k]:=by unfold M.aq;rw[ak c,eC,List.getD,aS hk];rfl
  have e':M.aq (mP m) k=Au m k m.au[k]:=by
   unfold M.aq;rw[ak (by show ¬((k:Int)<0\/((m.au.mapIdx (Au m)).length:Int)<=k);rw[List.length_mapIdx];exact c)];show(m.au.mapIdx (Au m)).getD _ _=_;rw[eC,List.getD,List.getElem?_mapIdx,aS hk];rfl
  rw[e,e'];unfold Au;by_cases hu:cJ m k=0
  ·rw[ay hu,ak (by omega)]
  ·rw[ak hu,ay (by omega)]
theorem MX(m:M.Md):(mP m).au.length=m.au.length:=List.length_mapIdx
theorem tj(m:M.Md)(n:Int):(M.aq (mP m) n).af=(M.aq m n).af:=by rw[Rp];split<;>rfl
theorem XK(m:M.Md):mq m (mP m):=by
 refine⟨MX m,fun n=>?_,fun n=>?_,fun n=>?_,fun n=>?_⟩<;>rw[Rp]<;>split<;>rfl
theorem Rq{m:M.Md}{n:Int}(h:0<cJ m n):(M.aq (mP m) n).data=(M.aq m n).data:=by rw[Rp,ay h]
theorem dH.mP{m:M.Md}{C:List (List Int)}(s:dH m C):dH (mP m) C:=by
 have d:=XK m;have hW:∀o∈m.ag,M.cm o.af=true->(M.aq (H.mP m) o.aP).data=(M.aq m o.aP).data/\(M.aq (H.mP m) o.bC).data=(M.aq m o.bC).data:=
  fun o ho h=>⟨Rq (tf.mpr (.inl ⟨o,ho,(XE h).1⟩)),Rq (tf.mpr (.inl ⟨o,ho,(XE h).2⟩))⟩
 have ln:=MX m;refine⟨by rw[ln];exact s.nt,s.no,s.nu,fun n h0 h1=>?_,fun n h0 h1=>d.kQ (s.kQ n h0 (by omega)),fun o ho=>d.Ce (s.fi o ho) (hW o ho),fun o ho=>?_,fun o ho=>?_,s.nd,?_,fun o ho=>?_,fun o ho h=>?_,fun n hn=>?_,fun n h0 h1=>?_,fun n h0 h1 h2=>?_,fun n h0 h1 h2=>?_⟩
 ·rw[tj];exact s.Cg n h0 (by omega)
 ·rw[d.iu (hW o ho)];exact s.eq o ho
 ·rw[tj,ln];exact s.to o ho
 ·exact Ord.congr ln s.xC fun o ho n hn k=>⟨by rw[tj] at k;exact k,id⟩
 ·rw[tj,tj];exact s.Aw o ho
 ·rw[tj,tj];exact s.ws o ho h
 ·obtain⟨a,h⟩:=s.aK n hn
  exact⟨⟨a.1,by rw[ln];exact a.2.1,fun k=>a.2.2 (by rw[tj] at k;exact k)⟩,by rw[tj];exact h⟩
 ·have MY:0<cJ m n:=h0
  rw[tj] at h1;rw[Rq MY];exact s.data n MY h1
 ·rw[tj] at h2
  rw[d.cells];exact s.s9 n h0 (by omega) h2
 ·rw[tj] at h2
  exact s.cells n h0 (by omega) h2
theorem dH.jE{m:M.Md}{C:List (List Int)}(s:dH m C):dH (jE m) C:=s.iR.drop.oY.mP
theorem akH{m:M.Md}{C:List (List Int)}{o:M.Op}{n:Int}(h0:0<=o.to)(h:o.to≠n):D.bW (O.step m C o) n=D.bW C n:=by
 unfold O.step D.bW;by_cases c:n<0
 ·rw[ay c,ay c]
 ·rw[ak c,ak c,D.yO,ak (by omega)]
theorem akI{m:M.Md}{C:List (List Int)}{o:M.Op}(h0:0<=o.to)(h1:o.to<C.length):D.bW (O.step m C o) o.to=O.iu m o (D.bW C o.a) (D.bW C o.b):=by
 unfold O.step;generalize O.iu m o (D.bW C o.a) (D.bW C o.b)=l;unfold D.bW;rw[ak (by omega),D.yO,ay ⟨rfl,by omega⟩]
theorem MZ{m:M.Md}{n:Int}:∀(os:List M.Op) (C:List (List Int)),(∀o∈os,0<=o.to/\o.to≠n)->D.bW (os.foldl (O.step m) C) n=D.bW C n
 | [],_,_=>rfl
 | o::os,C,h=>by
  rw[List.foldl_cons,MZ os _ fun p hp=>h p (sZ _ hp)];exact akH (h o pC).1 (h o pC).2
theorem XL{l:List M.Op}{i:Nat}{o:M.Op}(h:l[i]?=some o):l=l.take i++o::l.drop (i+1):=(IW h).1
theorem M6{m:M.Md}{n:Int}(h0:0<=n)(h1:n<m.au.length):(m.au.map (·.af)).getD n.toNat 0=(M.aq m n).af:=O.MQ (O.kP h0 h1).1
theorem XM{m:M.Md}(h1:O.iP m){i:Nat}{o:M.Op}(_ho:m.ag[i]?=some o){n:Int}(hn:M.uj m n i)(C:List (List Int)) :
  D.bW (m.ag.foldl (O.step m) C) n=D.bW ((m.ag.take i).foldl (O.step m) C) n:=by
 conv=>lhs;rw[show m.ag=m.ag.take i++m.ag.drop i from (List.take_append_drop _ _).symm]
 rw[List.foldl_append];refine MZ _ _ fun p hp=>?_;obtain⟨j,hj⟩:=mQ hp;rw[List.getElem?_drop] at hj;have hk:=O.mo (h1.to _ p hj);refine⟨hk.1,fun e=>?_⟩;obtain⟨n0,n1,-,n3⟩:=hn;rw[M6 n0 n1] at n3;obtain⟨q,r,hq,hr,he⟩:=n3 (by rw[<-e];exact hk.2.2);exact h1.Q8.apart q (i+j) r p (by omega) (M.bP hj) hr hj (by rw[he,e])
theorem M7{m:M.Md}(h1:O.iP m){ins:List (List Int)}(hi:D.jP m ins=true):dH m (O.fM m ins):=by
 have hE:=O.IS h1 hi m.ag.length (bj _);rw[jm] at hE;have get:∀n:Int,0<=n->n<m.au.length->m.au[n.toNat]?=some (M.aq m n)/\M.aq m n∈m.au:=fun n h0 h1=>O.kP h0 h1;have ca:∀n:Int,0<=n->D.bW (O.fM m ins) n=(O.fM m ins).getD n.toNat []:=fun n h=>by unfold D.bW;rw[ak (by omega)]
 have mem:∀o∈m.ag,∃i:Nat,m.ag[i]?=some o:=fun o ho=>mQ ho;have ta:∀{i:Nat} {o:M.Op},m.ag[i]?=some o->D.bW (O.fM m ins) o.a=D.bW ((m.ag.take i).foldl (O.step m) (O.mN m.au ins)) o.a:=fun ho=>XM h1 ho (h1.a _ _ ho) _;have tb:∀{i:Nat} {o:M.Op},m.ag[i]?=some o->M.dr o.af=true->D.bW (O.fM m ins) o.b=D.bW ((m.ag.take i).foldl (O.step m) (O.mN m.au ins)) o.b:=fun ho h=>XM h1 ho (h1.b _ _ ho h) _;have av:∀(i:Nat) (n:Int),i<=m.ag.length->M.uj m n i->Av m ((m.ag.take i).map (·.to)) n:=by
  intro i n hi ⟨n0,n1,n2,n3⟩;refine⟨n0,n1,fun k=>?_⟩;rw[M6 n0 n1] at n3;obtain⟨j,o,hj,ho,he⟩:=n3 k;refine List.mem_map.mpr ⟨o,?_,he⟩;refine bU (i:=j) ?_;rw[List.getElem?_take,ay (by omega)];exact ho
 have t2:∀{n:Int} {i:Int},M.uj m n i->(M.aq m n).af≠2:=fun {n i} ⟨n0,n1,n2,_⟩=>by rw[<-M6 n0 n1];exact n2
 refine⟨h1.nt,h1.no,h1.dQ.nu,fun n h0 h2=>?_,fun n h0 h2=>h1.kQ _ (get n h0 h2).2,fun o ho=>?_,fun o ho=>?_,fun o ho=>?_,?_,?_,fun o ho=>?_,fun o ho h=>?_,fun n hn=>?_,fun n _ hk=>?_,fun n h0 h2 h3=>?_,fun n h0 h2 h3=>?_⟩
 ·have:=h1.dQ.ts _ (get n h0 h2).2;exact⟨this.k0,this.k1⟩
 ·obtain⟨i,mO⟩:=mem o ho
  have F:=(O.IS h1 hi i (Nat.le_of_lt (M.bP mO))).Ce h1 mO;rw[<-ta mO] at F
  cases h2:M.dr o.af with
  | true=>rw[<-tb mO h2] at F;exact F
  | false=>exact Re F h2
 ·obtain⟨i,mO⟩:=mem o ho
  have hk:=O.mo (h1.to i o mO);have hl:((m.ag.take i).foldl (O.step m) (O.mN m.au ins)).length=m.au.length:=(O.IS h1 hi i (Nat.le_of_lt (M.bP mO))).MR;have e:D.bW (O.fM m ins) o.to=O.iu m o (D.bW ((m.ag.take i).foldl (O.step m) (O.mN m.au ins)) o.a) (D.bW ((m.ag.take i).foldl (O.step m) (O.mN m.au ins)) o.b):=by
   show D.bW (m.ag.foldl (O.step m) (O.mN m.au ins)) o.to=_
   conv=>lhs;rw[XL mO]
   rw[List.foldl_append,List.foldl_cons,MZ]
   ·exact akI hk.1 (by rw[hl];exact hk.2.1)
   ·intro p hp
    obtain⟨j,hj⟩:=mQ hp;rw[List.getElem?_drop] at hj;exact⟨(O.mo (h1.to _ p hj)).1,fun e=>h1.Q8.apart i _ o p (by omega) (M.bP hj) mO hj e.symm⟩
  rw[e,ta mO]
  cases h2:M.dr o.af with
  | true=>rw[tb mO h2]
  | false=>exact Rb m h2 _ _ _
 ·obtain⟨i,mO⟩:=mem o ho;exact O.mo (h1.to i o mO)
 ·refine List.pairwise_iff_getElem.mpr fun i j hi hj rO=>?_
  rw[jb] at hj;rw[List.getElem_map,List.getElem_map];exact h1.Q8.apart i j _ _ rO hj (aS (by omega)) (aS hj)
 ·have cF:∀k,k<=m.ag.length->Ord m [] (m.ag.take k):=by
   intro k
   induction k with
   | zero=>intro _;exact trivial
   | succ k ih=>
    intro hk;have hx:m.ag[k]?=some m.ag[k]:=aS (by omega);rw[List.take_add_one,hx];refine Ord.append.mpr ⟨ih (by omega),⟨fun n hn=>?_,trivial⟩⟩;rw[List.nil_append];rcases akz hn with rfl|⟨h2,rfl⟩|⟨h2,h3⟩
    ·exact av k _ (by omega) (h1.a k _ hx)
    ·exact av k _ (by omega) (h1.b k _ hx h2)
    ·obtain⟨w1,w2⟩:=h1.ws k _ hx h2
     rcases h3 with rfl|rfl
     ·have:=O.mo w1;exact⟨this.1,this.2.1,fun h=>by omega⟩
     ·have:=O.mo w2;exact⟨this.1,this.2.1,fun h=>by omega⟩
  have:=cF m.ag.length (bj _)
  rwa [jm] at this
 ·obtain⟨i,mO⟩:=mem o ho
  exact⟨t2 (h1.a i o mO),fun h=>t2 (h1.b i o mO h)⟩
 ·obtain⟨i,mO⟩:=mem o ho
  obtain⟨w1,w2⟩:=h1.ws i o mO h;exact⟨(O.mo w1).2.2,(O.mo w2).2.2⟩
 ·have:=h1.aK n hn
  have a:=av m.ag.length n (bj _) this;rw[jm] at a;exact⟨a,t2 this⟩
 ·by_cases c:n<0\/(m.au.length:Int)<=n
  ·exfalso
   unfold M.aq at hk;rw[ay c] at hk;exact aN hk (by decide)
  ·rw[ca n (by omega)]
   have g:=(get n (by omega) (by omega)).1;have e1:=hE.eq n.toNat _ g (by omega);have e2:=hE.data n.toNat _ g (.inl hk);exact e1.trans e2
 ·rw[ca n h0]
  refine hE.s9 n.toNat _ (get n h0 h2).1 h3 fun k=>?_;obtain⟨j,o,hj,he⟩:=h1.all n.toNat (by omega) (by rw[M6 h0 h2];exact k);exact⟨j,o,M.bP hj,hj,he⟩
 ·rw[ca n h0]
  exact hE.cells n.toNat _ (get n h0 h2).1 h3
end H
namespace H
structure dE where
 f:Int
 t:Int
 c:Int
structure Bf where
 a:Int
 c:Int
def bQ:dE:=⟨0,0,0⟩
def aV:Bf:=⟨0,0⟩
def Bf.e(b:Bf):Int:=b.a+b.c
def mR(x y:dE):Bool:=decide (x.f<=y.t)&&decide (y.f<=x.t)
def rR(x:dE)(b:Bf)(l:dE)(p:Int):Bool:=mR x l&&decide (p<b.e)&&decide (b.a<p+l.c)
def Ay(lv:List dE)(ld:List Bf)(l:dE)(p:Int)(k:Nat):Bool:=(List.range k).all fun i=>!rR (lv.getD i bQ) (ld.getD i aV) l p
def ux(lv:List dE)(ld:List Bf)(l:dE)(p:Int):Bool:=Ay lv ld l p (min lv.length ld.length)
def endTo(ld:List Bf):Nat->Int
 | 0=>0
 | k+1=>if endTo ld k<(ld.getD k aV).e then (ld.getD k aV).e else endTo ld k
def gU(ld:List Bf):Int:=endTo ld ld.length
def pH(lv:List dE)(ld:List Bf):Nat->Int×Int
 | 0=>(-1,0)
 | k+1=>if (ld.getD k aV).c=0/\(pH lv ld k).2<(lv.getD k bQ).c then ((k:Int),(lv.getD k bQ).c) else pH lv ld k
def pI(lv:List dE)(ld:List Bf):Int:=(pH lv ld (min lv.length ld.length)).1
def oZ(lv:List dE)(ld:List Bf)(l:dE):Nat->Int
 | 0=>gU ld
 | k+1=>if (ld.getD k aV).e<oZ lv ld l k/\ux lv ld l (ld.getD k aV).e=true then (ld.getD k aV).e else oZ lv ld l k
def qt(lv:List dE)(ld:List Bf)(l:dE):Int:=if ux lv ld l 0=true then 0 else oZ lv ld l ld.length
def put(lv:List dE)(ld:List Bf)(i:Nat):List Bf:=ld.set i ⟨qt lv ld (lv.getD i bQ),(lv.getD i bQ).c⟩
def Ci(lv:List dE)(ld:List Bf):List Bf:=if pI lv ld<0\/(ld.length:Int)<=pI lv ld then ld else put lv ld (pI lv ld).toNat
def fK(lv:List dE):Nat->List Bf
 | 0=>List.replicate lv.length aV
 | k+1=>Ci lv (fK lv k)
def fg(lv:List dE):List Bf:=fK lv lv.length
def sumC:List Bf->Int
 | []=>0
 | b::l=>b.c+sumC l
theorem Rr(l:List Bf)(i n:Nat)(x:Bf):(l.set i x).getD n aV=if i=n/\n<l.length then x else l.getD n aV:=by
 rw[List.getD,List.getD,ox];by_cases h:i=n
 ·subst h
  by_cases hl:i<l.length
  ·simp[hl]
  ·simp[hl]
 ·simp[h]
theorem Rs{ld:List Bf}:∀{k i:Nat},i<k->(ld.getD i aV).e<=endTo ld k
 | 0,i,h=>aN h (by omega)
 | k+1,i,h=>by
  unfold endTo;rcases(show i<k\/i=k by omega) with h' | rfl
  ·have:=Rs (ld:=ld) h';split<;>omega
  ·split<;>omega
theorem Cj(ld:List Bf):∀k,0<=endTo ld k
 | 0=>Int.le_refl _
 | k+1=>by have:=Cj ld k;unfold endTo;split<;>omega
theorem IY{ld:List Bf}{B:Int}(h0:0<=B):∀k,(∀i,i<k->(ld.getD i aV).e<=B)->endTo ld k<=B
 | 0,_=>h0
 | k+1,h=>by
  have:=IY h0 k fun i hi=>h i (by omega);have:=h k (by omega);unfold endTo;split<;>omega
theorem Rt{ld:List Bf}{i:Nat}(h:i<ld.length):(ld.getD i aV).e<=gU ld:=Rs h
theorem IZ{lv:List dE}{ld:List Bf}{l:dE}{p:Int}{k:Nat}:Ay lv ld l p k=true↔∀i,i<k->rR (lv.getD i bQ) (ld.getD i aV) l p=false:=by
 unfold Ay;rw[jn]
 constructor
 ·intro h i hi
  have:=h i (List.mem_range.mpr hi)
  simpa using this
 ·intro h i hi
  rw[h i (List.mem_range.mp hi)];rfl
theorem akJ{x l:dE}{b:Bf}{p:Int}(h:rR x b l p=false)(hm:mR x l=true):b.e<=p\/p+l.c<=b.a:=by
 unfold rR at h;rw[hm] at h;simp at h;by_cases c:p<b.e
 ·exact .inr (h c)
 ·exact .inl (by omega)
theorem akK{lv:List dE}{ld:List Bf}(l:dE)(hl:lv.length=ld.length):ux lv ld l (gU ld)=true:=by
 unfold ux;refine IZ.mpr fun i hi=>?_;have:=Rt (ld:=ld) (i:=i) (by omega);unfold rR;rw[eE (show ¬gU ld<(ld.getD i aV).e by omega)];simp
theorem XN{lv:List dE}{ld:List Bf}{l:dE}(hl:lv.length=ld.length)(h0:∀i,i<ld.length->0<=(ld.getD i aV).e):∀k,k<=ld.length->ux lv ld l (oZ lv ld l k)=true/\0<=oZ lv ld l k/\oZ lv ld l k<=gU ld
 | 0,_=>⟨akK l hl,Cj _ _,Int.le_refl _⟩
 | k+1,hk=>by
  obtain⟨h1,h2,h3⟩:=XN (lv:=lv) (l:=l) hl h0 k (by omega);unfold oZ
  split
  ·rename_i c
   exact⟨c.2,h0 k (by omega),by omega⟩
  ·exact⟨h1,h2,h3⟩
theorem akL{lv:List dE}{ld:List Bf}{l:dE}(hl:lv.length=ld.length)(h0:∀i,i<ld.length->0<=(ld.getD i aV).e):ux lv ld l (qt lv ld l)=true/\0<=qt lv ld l/\qt lv ld l<=gU ld:=by
 unfold qt
 split
 ·rename_i c;exact⟨c,Int.le_refl _,Cj _ _⟩
 ·exact XN hl h0 _ (bj _)
theorem XO{lv:List dE}{ld:List Bf}:∀k,(pH lv ld k).1 = -1/\(pH lv ld k).2=0/\(∀i,i<k->(ld.getD i aV).c=0->(lv.getD i bQ).c<=0) \/
  ∃i:Nat,i<k/\(pH lv ld k).1=i/\(ld.getD i aV).c=0/\(pH lv ld k).2=(lv.getD i bQ).c/\0<(lv.getD i bQ).c
 | 0=>.inl ⟨rfl,rfl,fun i hi=>aN hi (by omega)⟩
 | k+1=>by
  unfold pH;rcases XO (lv:=lv) (ld:=ld) k with⟨h1,h2,h3⟩|⟨i,hi,h1,h2,h3,h4⟩
  ·by_cases c:(ld.getD k aV).c=0/\(pH lv ld k).2<(lv.getD k bQ).c
   ·rw[ay c]
    exact .inr ⟨k,by omega,rfl,c.1,rfl,by rw[h2] at c;exact c.2⟩
   ·rw[ak c]
    refine .inl ⟨h1,h2,fun i hi h0=>?_⟩;rcases(show i<k\/i=k by omega) with h' | rfl
    ·exact h3 i h' h0
    ·rw[h2] at c
     have:¬0<(lv.getD i bQ).c:=fun h=>c ⟨h0,h⟩;omega
  ·by_cases c:(ld.getD k aV).c=0/\(pH lv ld k).2<(lv.getD k bQ).c
   ·rw[ay c]
    exact .inr ⟨k,by omega,rfl,c.1,rfl,by rw[h3] at c;omega⟩
   ·rw[ak c]
    exact .inr ⟨i,by omega,h1,h2,h3,h4⟩
structure D2(lv:List dE)(ld:List Bf):Prop where
 len:ld.length=lv.length
 bN:∀i,i<lv.length->ld.getD i aV=aV\/((ld.getD i aV).c=(lv.getD i bQ).c/\0<=(ld.getD i aV).a)
 apart:∀i j,i<lv.length->j<lv.length->i≠j->0<(ld.getD i aV).c->0<(ld.getD j aV).c->mR (lv.getD i bQ) (lv.getD j bQ)=true->(ld.getD i aV).e<=(ld.getD j aV).a\/(ld.getD j aV).e<=(ld.getD i aV).a
 sum:gU ld<=sumC ld
theorem akM(x y:dE):mR x y=mR y x:=by unfold mR;rw[Bool.and_comm]
theorem XP:∀(ld:List Bf) (i:Nat) (b:Bf),i<ld.length->sumC (ld.set i b)=sumC ld-(ld.getD i aV).c+b.c
 | [],_,_,h=>aN h (by simp)
 | x::l,0,b,_=>by simp[sumC];omega
 | x::l,i+1,b,h=>by
  have:=XP l i b (by simpa using h);simp only[List.set_cons_succ,sumC,List.getD_cons_succ];omega
theorem D2.akN{lv:List dE}{ld:List Bf}(h:D2 lv ld)(hc:∀i,i<lv.length->1<=(lv.getD i bQ).c)(i:Nat)(hi:i<ld.length):0<=(ld.getD i aV).e/\0<=(ld.getD i aV).a/\0<=(ld.getD i aV).c:=by
 have hl:=h.len;rcases h.bN i (by omega) with e|⟨e1,e2⟩
 ·rw[e];decide
 ·have:=hc i (by omega);unfold Bf.e;omega
theorem D2.put{lv:List dE}{ld:List Bf}(h:D2 lv ld)(hc:∀i,i<lv.length->1<=(lv.getD i bQ).c){i:Nat}(hi:i<lv.length)(h0:(ld.getD i aV).c=0):D2 lv (put lv ld i):=by
 have hl:=h.len;obtain⟨f1,f2,f3⟩:=akL (l:=lv.getD i bQ) hl.symm fun j hj=>(h.akN hc j hj).1;have fr:=IZ.mp f1;have gs:∀n,(H.put lv ld i).getD n aV=if i=n/\n<ld.length then ⟨qt lv ld (lv.getD i bQ),(lv.getD i bQ).c⟩ else ld.getD n aV:=fun n=>Rr _ _ _ _;have cF:∀j,j<lv.length->i≠j->0<(ld.getD j aV).c->mR (lv.getD j bQ) (lv.getD i bQ)=true->(ld.getD j aV).e<=qt lv ld (lv.getD i bQ)\/qt lv ld (lv.getD i bQ)+(lv.getD i bQ).c<=(ld.getD j aV).a:=
  fun j hj _ _ hm=>akJ (fr j (by omega)) hm
 refine⟨by unfold H.put;rw[kK];exact hl,fun n hn=>?_,fun a b ha hb Ja ca cb hm=>?_,?_⟩
 ·rw[gs]
  split
  ·rename_i c;exact .inr ⟨by rw[c.1],f2⟩
  ·exact h.bN n hn
 ·rw[gs a] at ca ⊢
  rw[gs b] at cb ⊢;by_cases c1:i=a/\a<ld.length
  ·rw[ay c1] at ca ⊢
   rw[ak (by omega)] at cb ⊢;obtain⟨rfl,-⟩:=c1;rw[akM] at hm;rcases cF b hb Ja cb hm with k|k
   ·exact .inr k
   ·exact .inl k
  ·rw[ak c1] at ca ⊢
   by_cases c2:i=b/\b<ld.length
   ·rw[ay c2] at cb ⊢
    obtain⟨rfl,-⟩:=c2;rcases cF a ha (Ne.symm Ja) ca hm with k|k
    ·exact .inl k
    ·exact .inr k
   ·rw[ak c2] at cb ⊢
    exact h.apart a b ha hb Ja ca cb hm
 ·have hs:sumC (H.put lv ld i)=sumC ld-(ld.getD i aV).c+(lv.getD i bQ).c:=XP ld i _ (by omega)
  rw[hs,h0];have D3:=h.sum;have hci:=hc i hi;have nn:=Cj ld ld.length;unfold gU at D3 ⊢;refine IY (by omega) _ fun n hn=>?_;rw[gs]
  split
  ·show qt lv ld (lv.getD i bQ)+(lv.getD i bQ).c<=_
   unfold gU at f3;omega
  ·have oU:n<ld.length:=by unfold H.put at hn;rwa [kK] at hn
   have:=Rs (ld:=ld) oU;omega
def qW(ld:List Bf):Nat->Nat
 | 0=>0
 | k+1=>(if (ld.getD k aV).c=0 then 1 else 0)+qW ld k
theorem XQ{ld:List Bf}:∀{k},qW ld k=0->∀i,i<k->(ld.getD i aV).c≠0
 | 0,_,i,hi=>aN hi (by omega)
 | k+1,h,i,hi=>by
  unfold qW at h;by_cases c:(ld.getD k aV).c=0
  ·rw[ay c] at h;omega
  ·rw[ak c] at h
   rcases(show i<k\/i=k by omega) with h' | rfl
   ·exact XQ (by omega) i h'
   ·exact c
theorem XR(ld:List Bf):∀k,qW ld k<=k
 | 0=>bj _
 | k+1=>by have:=XR ld k;unfold qW;split<;>omega
theorem XS{ld:List Bf}{i:Nat}{b:Bf}(hi:i<ld.length)(h0:(ld.getD i aV).c=0)(hb:b.c≠0):∀k,k<=ld.length->qW (ld.set i b) k+(if i<k then 1 else 0)=qW ld k
 | 0,_=>by simp[qW]
 | k+1,hk=>by
  have ih:=XS hi h0 hb k (by omega);unfold qW;by_cases c:i=k
  ·subst c
   have e:(ld.set i b).getD i aV=b:=by rw[Rr,ay ⟨rfl,hi⟩]
   rw[e,ak hb,ay h0,ay (show i<i+1 by omega)];rw[ak (show ¬i<i by omega)] at ih;omega
  ·have e:(ld.set i b).getD k aV=ld.getD k aV:=by rw[Rr,ak (fun h=>c h.1)]
   rw[e];by_cases c2:i<k
   ·rw[ay c2] at ih
    rw[ay (show i<k+1 by omega)];omega
   ·rw[ak c2] at ih
    rw[ak (show ¬i<k+1 by omega)];omega
theorem Ru{lv:List dE}(hc:∀i,i<lv.length->1<=(lv.getD i bQ).c):∀k,D2 lv (fK lv k)/\qW (fK lv k) lv.length<=lv.length-k
 | 0=>by
  have g:∀i,(List.replicate lv.length aV).getD i aV=aV:=by
   intro i;rw[List.getD,ui]
   split<;>rfl
  refine⟨⟨by simp[fK],fun i hi=>.inl (g i),fun i j _ _ _ ci=>?_,?_⟩,by have:=XR (fK lv 0) lv.length;omega⟩
  ·unfold fK at ci;rw[g i] at ci;exact aN ci (by decide)
  ·have e1:gU (List.replicate lv.length aV)<=0:=IY (by decide) _ fun i _=>by rw[g i];decide
   have e2:∀n,sumC (List.replicate n aV)=0:=by
    intro n
    induction n with
    | zero=>rfl
    | succ n ih=>rw[List.replicate_succ];unfold sumC;rw[ih];rfl
   show gU (List.replicate lv.length aV)<=sumC (List.replicate lv.length aV);rw[e2];exact e1
 | k+1=>by
  obtain⟨L,U⟩:=Ru hc k;have hl:=L.len;show D2 lv (Ci lv (fK lv k))/\qW (Ci lv (fK lv k)) lv.length<=_;unfold Ci;have hm:min lv.length (fK lv k).length=lv.length:=by omega
  rcases XO (lv:=lv) (ld:=fK lv k) lv.length with⟨h1,h2,h3⟩|⟨i,hi,h1,h2,h3,h4⟩
  ·have e:pI lv (fK lv k) = -1:=by unfold pI;rw[hm];exact h1
   rw[ay (by omega)];refine⟨L,?_⟩;have z:qW (fK lv k) lv.length=0:=by
    have cF:∀n,n<=lv.length->qW (fK lv k) n=0:=by
     intro n
     induction n with
     | zero=>intro _;rfl
     | succ n ih=>
      intro hn;unfold qW;rw[ih (by omega),ak];intro h0;have:=h3 n (by omega) h0;have:=hc n (by omega);omega
    exact cF _ (bj _)
   omega
  ·have e:pI lv (fK lv k)=i:=by unfold pI;rw[hm];exact h1
   rw[ak (by omega),e,eC];refine⟨L.put hc hi h2,?_⟩;have:=XS (ld:=fK lv k) (i:=i) (b:=⟨qt lv (fK lv k) (lv.getD i bQ),(lv.getD i bQ).c⟩) (by omega) h2 (by show(lv.getD i bQ).c≠0;omega) lv.length (by omega);rw[ay hi] at this;show qW ((fK lv k).set i _) lv.length<=_;omega
structure XT(lv:List dE)(ld:List Bf):Prop where
 len:ld.length=lv.length
 c:∀i,i<lv.length->(ld.getD i aV).c=(lv.getD i bQ).c
 a:∀i,i<lv.length->0<=(ld.getD i aV).a
 Ck:∀i,i<lv.length->(ld.getD i aV).e<=gU ld
 apart:∀i j,i<lv.length->j<lv.length->i≠j->mR (lv.getD i bQ) (lv.getD j bQ)=true->(ld.getD i aV).e<=(ld.getD j aV).a\/(ld.getD j aV).e<=(ld.getD i aV).a
 sum:gU ld<=sumC ld
theorem akO{lv:List dE}(hc:∀i,i<lv.length->1<=(lv.getD i bQ).c):XT lv (fg lv):=by
 obtain⟨L,U⟩:=Ru hc lv.length;have z:=XQ (k:=lv.length) (show qW (fK lv lv.length) lv.length=0 by omega);have xD:∀i,i<lv.length->(((fK lv lv.length).getD i aV).c=(lv.getD i bQ).c/\0<=((fK lv lv.length).getD i aV).a):=by
  intro i hi;rcases L.bN i hi with e|e
  ·exact aN (by rw[e];rfl) (z i hi)
  ·exact e
 exact⟨L.len,fun i hi=>(xD i hi).1,fun i hi=>(xD i hi).2,fun i hi=>Rt (by rw[show fg lv=fK lv lv.length from rfl,L.len];exact hi),fun i j hi hj rO hm=>L.apart i j hi hj rO (by rw[(xD i hi).1];have:=hc i hi;omega) (by rw[(xD j hj).1];have:=hc j hj;omega) hm,L.sum⟩
end H
end Go.Proofs.YtcnhfffgbamonaaGreat
