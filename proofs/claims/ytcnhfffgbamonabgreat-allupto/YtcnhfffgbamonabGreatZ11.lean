import Derived.Test.YtcnhfffgbamonabGreatZ10
set_option maxRecDepth 100000
set_option maxHeartbeats 6400000
namespace Go.Proofs.YtcnhfffgbamonabGreat
open Go.Proofs.Tryz
namespace H
def wo(m:M.Md)(os:List M.Op):M.Md:={ m with ag:=os }
theorem QE(m:M.Md)(os:List M.Op):mg m (wo m os):=(mg.refl m).WL os
theorem QF{m:M.Md}{o:M.Op}{la lb:List Int}(F:O.jN m o la lb)(os:List M.Op):O.jN (wo m os) o la lb:=(QE m os).BP F fun _=>⟨rfl,rfl⟩
theorem QG{C:List (List Int)}:∀(rest:List M.Op) (m:M.Md) (left:List M.Op),dH (wo m (left++rest)) C ->
  dH (wo (rest.foldl nD (m,left)).1 (rest.foldl nD (m,left)).2) C
 | [],m,left,h=>by simpa using h
 | o::rest,m,left,h=>by
  rw[List.foldl_cons];unfold nD;by_cases hk:rG m o=true
  ·rw[ay hk]
   obtain⟨e,s⟩:=h.Mr (l:=left) (r:=rest) (o:=o) rfl hk;have e':O.iu m o (M.aq m o.a).data (M.aq m o.b).data=D.bW C o.to:=e;rw[e'];exact QG rest _ left s
  ·rw[ak hk]
   refine QG rest m (left++[o]) ?_;rw[j4];exact h
theorem dH.iP{m:M.Md}{C:List (List Int)}(s:dH m C):dH (iP m) C:=QG m.ag m [] s
theorem dH.ajz{m:M.Md}{C:List (List Int)}(s:dH m C){l r:List M.Op}{o:M.Op}(e:m.ag=l++o::r)(hu:cH m o.to=0):dH (wo m (l++r)) C:=by
 have d:=QE m (l++r);have sub:∀p∈l++r,p∈m.ag:=fun p hp=>by rw[e];simp at hp ⊢;rcases hp with h|h<;>simp[h]
 have nu:∀n,0<cH m n->n≠o.to:=fun n h h'=>by rw[h'] at h;omega
 have ul:∀n,cH (wo m (l++r)) n<=cH m n:=by
  intro n;unfold cH;rw[e,vy];show iO (l++r) n+m.aJ.count n<=_;omega
 refine⟨s.nt,?_,s.nu,s.BS,s.kN,fun p hp=>QF (s.fi p (sub p hp)) _,fun p hp=>s.eq p (sub p hp),fun p hp=>s.to p (sub p hp),?_,?_,fun p hp=>s.Ab p (sub p hp),fun p hp=>s.ws p (sub p hp),fun n hn=>?_,fun n h0 h1=>?_,s.sN,s.cells⟩
 ·have:=s.no;rw[e] at this;show(l++r).length<=16;simp at this ⊢;omega
 ·have nd:=s.nd
  rw[e,lH,List.map_cons] at nd;show((l++r).map (·.to)).Nodup;rw[lH];exact List.Nodup.sublist (List.Sublist.append_left (List.sublist_cons_self _ _) _) nd
 ·have ho:=s.xl
  rw[e] at ho;obtain⟨o1,-,o3⟩:=Ord.append.mp ho;refine Ord.append.mpr ⟨Ord.congr d.len o1 fun p hp n hn k=>⟨k,id⟩,Ord.congr d.len o3 fun p hp n hn k=>⟨k,fun hs=>?_⟩⟩;rcases List.mem_append.mp hs with h|h
  ·exact h
  ·refine aN (List.mem_singleton.mp h) (nu n (sP.mpr (.inl ⟨p,sub p (List.mem_append_right _ hp),hn⟩)))
 ·obtain⟨a,h2⟩:=s.aJ n hn
  refine⟨⟨a.1,a.2.1,fun k=>?_⟩,h2⟩;have:=a.2.2 k;rw[e] at this;show n∈(l++r).map (·.to);simp only[lH,List.map_cons,Ac,List.mem_cons] at this ⊢;rcases this with h|h|h
  ·exact .inl h
  ·exact aN h (nu n (sP.mpr (.inr hn)))
  ·exact .inr h
 ·exact s.data n (qB h0 (ul n)) h1
theorem Iu{l:List M.Op}{i:Nat}{o:M.Op}(h:l[i]?=some o):l=l.take i++o::l.drop (i+1)/\l.eraseIdx i=l.take i++l.drop (i+1):=by
 have hl:=M.bP h;refine⟨?_,List.eraseIdx_eq_take_drop_succ _ _⟩;rw[aT hl] at h;injection h with h;rw[<-h,List.getElem_cons_drop,List.take_append_drop]
theorem dH.kA{m:M.Md}{C:List (List Int)}(s:dH m C)(i:Nat):dH (kA m i) C:=by
 unfold H.kA
 cases h:m.ag[i]? with
 | none=>exact s
 | some o=>
  show dH (if cH m o.to=0 then _ else _) C
  split
  ·rename_i hu
   obtain⟨e1,e2⟩:=Iu h;rw[e2];exact s.ajz e1 hu
  ·exact s
theorem dH.rH{C:List (List Int)}:∀(i:Nat) {m:M.Md},dH m C->dH (rH i m) C
 | 0,_,s=>s
 | i+1,_,s=>dH.rH i (s.kA i)
theorem dH.drop{m:M.Md}{C:List (List Int)}(s:dH m C):dH (drop m) C:=s.rH _
theorem ajA{x y lo hi:Int}(h:x<=y)(hh:lo<=hi):R.cU x lo hi<=R.cU y lo hi:=by
 unfold R.cU;split<;>(try split)<;>(try split)<;>(try split)<;>omega
theorem ajB{x lo hi a b:Int}(h:lo<=hi)(h':a<=b):R.cU (R.cU x lo hi) a b=R.cU x (R.cU lo a b) (R.cU hi a b):=by
 unfold R.cU;split<;>(try split)<;>(try split)<;>(try split)<;>(try split)<;>(try split)<;>(try split)<;>omega
theorem WM{o:M.Op}(h:sO o=true):1<=o.af/\o.af<=7:=by
 unfold sO at h;simpa using h
theorem ajC{s c:M.Op}(hr:sO s=true)(hs:s.lo<=s.hi)(hc:c.lo<=c.hi)(a b w bi:O.G)(t:M.Tn)(y x k:Int) :
  O.cell ⟨eU s c,a,b,w,bi,t⟩ y x k=R.cU (O.cell ⟨s,a,b,w,bi,t⟩ y x k) c.lo c.hi:=by
 have rr:∀v,O.tX ⟨eU s c,a,b,w,bi,t⟩ v=R.cU (O.tX ⟨s,a,b,w,bi,t⟩ v) c.lo c.hi:=fun v=>(ajB hs hc).symm;have ok:=WM hr;have k1:(eU s c).af=s.af:=rfl;have oo:∀v k,O.out ⟨eU s c,a,b,w,bi,t⟩ v k=R.cU (O.out ⟨s,a,b,w,bi,t⟩ v k) c.lo c.hi:=fun v k=>rr _;unfold O.cell;show(if s.af=1 then _ else _)=R.cU (if s.af=1 then _ else _) _ _;by_cases h1:s.af=1
 ·rw[ay h1,ay h1];exact oo _ _
 rw[ak h1,ak h1];show(if s.af=2 then _ else _)=R.cU (if s.af=2 then _ else _) _ _;by_cases h2:s.af=2
 ·rw[ay h2,ay h2];exact oo _ _
 rw[ak h2,ak h2];show(if s.af=3 then _ else _)=R.cU (if s.af=3 then _ else _) _ _;by_cases h3:s.af=3
 ·rw[ay h3,ay h3];exact oo _ _
 rw[ak h3,ak h3];show(if s.af=4 then _ else _)=R.cU (if s.af=4 then _ else _) _ _;by_cases h4:s.af=4
 ·rw[ay h4,ay h4];exact oo _ _
 rw[ak h4,ak h4];show(if s.af=5\/s.af=6 then _ else _)=R.cU (if s.af=5\/s.af=6 then _ else _) _ _;by_cases h5:s.af=5\/s.af=6
 ·rw[ay h5,ay h5]
  unfold O.z7;show(if s.af=5 then _ else _)=R.cU (if s.af=5 then _ else _) _ _
  split
  ·exact rr _
  ·exact rr _
 rw[ak h5,ak h5];show(if s.af=7 then _ else _)=R.cU (if s.af=7 then _ else _) _ _;rw[ay (by omega),ay (by omega)];exact rr _
theorem E4{c:M.Op}(hk:c.af=7){m:M.Md}{la lb:List Int}{y x k:Int}:O.cell (O.start m c la lb) y x k=R.cU (O.bN (O.eZ (M.aq m c.a) la) y x k) c.lo c.hi:=by
 unfold O.cell;show(if c.af=1 then _ else if c.af=2 then _ else if c.af=3 then _ else if c.af=4 then _ else if c.af=5\/c.af=6 then _ else if c.af=7 then _ else _)=_;rw[ak (by omega),ak (by omega),ak (by omega),ak (by omega),ak (by omega),ay hk]
 rfl
theorem ajD{t:M.Tn}(d:O.tZ t){q:Nat}(h:(q:Int)<M.cellsOf t):0<=(q:Int)/(t.w*t.c)/\(q:Int)/(t.w*t.c)<t.h/\0<=(q:Int)/t.c%t.w/\(q:Int)/t.c%t.w<t.w/\0<=(q:Int)%t.c/\(q:Int)%t.c<t.c /\
  ((q:Int)/(t.w*t.c)*t.w+(q:Int)/t.c%t.w)*t.c+(q:Int)%t.c=q:=by
 have hw:=d.w0;have hc:=d.c0;have Ih:0<t.w*t.c:=Int.mul_pos (by omega) (by omega);unfold M.cellsOf at h;refine⟨Int.ediv_nonneg (by omega) (by omega),Int.ediv_lt_of_lt_mul Ih (by rw[<-Int.mul_assoc];exact h),E7 _ (by omega),E8 _ (by omega),E7 _ (by omega),E8 _ (by omega),?_⟩;have e:(q:Int)/(t.w*t.c)=(q:Int)/t.c/t.w:=by rw[Int.mul_comm,Int.ediv_ediv_of_nonneg (by omega)]
 rw[e];have h1:=Int.mul_ediv_add_emod ((q:Int)/t.c) t.w;have h2:=Int.mul_ediv_add_emod (q:Int) t.c;rw[Int.mul_comm ((q:Int)/t.c/t.w) t.w,h1,Int.mul_comm ((q:Int)/t.c) t.c,h2]
theorem ajE{s c:M.Op}(fs:kK s)(fc:kK c)(hr:sO s=true)(hh:c.lo<=c.hi):kK (eU s c):=by
 have hb:=D.BL (x:=s.lo) hh;have BU:=D.BL (x:=s.hi) hh;have l1:=fc.lo;have l2:=fc.hi;unfold qI at l1 l2;exact⟨fs.k0,fs.k1,fs.a,fs.b,fs.ws,fs.bs,fc.to,fs.Qi,fs.aV,fs.size,fs.aE,fs.aS,fs.below,fs.left,fs.right,⟨by show -128<=R.cU _ _ _;omega,by show R.cU _ _ _<=127;omega⟩,⟨by show -128<=R.cU _ _ _;omega,by show R.cU _ _ _<=127;omega⟩,
  fs.L0,fs.Ii,fs.L3,fs.L4,fun h=>aN (WM hr) h,fs.bM,fs.gE⟩
theorem dH.eU{m:M.Md}{C:List (List Int)}(S:dH m C){l mid rest:List M.Op}{s c:M.Op}(e:m.ag=l++s::(mid++c::rest))(hr:sO s=true)(hk:c.af=7)(ha:s.to=c.a)(hu:cH m c.a=1) :
  dH (wo m (l++eU s c::(mid++rest))) C:=by
 have hs:s∈m.ag:=by rw[e];simp
 have hc:c∈m.ag:=by rw[e];simp
 have d:=QE m (l++H.eU s c::(mid++rest));have sub:∀p∈l++(mid++rest),p∈m.ag:=fun p hp=>by rw[e];simp at hp ⊢;rcases hp with h|h|h<;>simp[h]
 have Fs:=S.fi s hs;have Fc:=S.fi c hc;have cw:M.cm c.af=false:=by rw[hk];decide
 have c2:M.dr c.af=false:=by rw[hk];decide
 have rc:cM c=[c.a]:=by unfold cM;rw[ak (by rw[cw];decide),ak (by rw[c2];decide)]
 have qs:=Fs.ua;have qc:=Fc.ua;unfold M.lG at qs qc;simp only[fh,Bool.not_eq_true',decide_eq_false_iff_not] at qs qc;have WN:s.lo<=s.hi:=by have:=qs.1.1;omega
 have Iv:c.lo<=c.hi:=by have:=qc.1.1;omega
 have al:(M.aq m c.a).h=(M.aq m c.to).h/\(M.aq m c.a).w=(M.aq m c.to).w/\(M.aq m c.a).c=(M.aq m c.to).c:=by
  have:=Fc.bT;unfold M.bT at this;simp only[hk] at this
  simpa[M.kV,and_assoc] using this
 have zz:(M.aq m c.a).zero=(M.aq m c.to).zero:=by
  have:=qc.2;unfold M.jS at this;rw[ak (by rw[cw];decide),ak (by omega)] at this;simp only[c2,Bool.false_eq_true,if_false,beq_iff_eq] at this;exact this
 have mj:∀la lb,O.iu m (H.eU s c) la lb=(O.iu m s la lb).map fun v=>R.cU v c.lo c.hi:=by
  intro la lb;unfold O.iu D.pZ;rw[List.map_map];show(List.range (M.cellsOf (M.aq m c.to)).toNat).map (fun q:Nat=>O.cell (O.start m (H.eU s c) la lb) ((q:Int)/((M.aq m c.to).w*(M.aq m c.to).c)) ((q:Int)/(M.aq m c.to).c%(M.aq m c.to).w) ((q:Int)%(M.aq m c.to).c))=_;rw[ha];have ec:M.cellsOf (M.aq m c.to)=M.cellsOf (M.aq m c.a):=by unfold M.cellsOf;rw[al.1,al.2.1,al.2.2]
  rw[ec,<-al.2.1,<-al.2.2]
  apply List.map_congr_left
  intro q _;show O.cell ⟨H.eU s c,_,_,_,_,M.aq m c.to⟩ _ _ _=R.cU (O.cell ⟨s,_,_,_,_,M.aq m s.to⟩ _ _ _) _ _;rw[ajC hr WN Iv,ha,WJ (t:=M.aq m c.a) (h1:=al.1.symm) (h2:=al.2.1.symm) (h3:=al.2.2.symm) (h4:=zz.symm)]
  rfl
 have mc:∀la lb,(la.length:Int)=M.cellsOf (M.aq m c.a)->O.iu m c la lb=la.map fun v=>R.cU v c.lo c.hi:=by
  intro la lb hl;unfold O.iu D.pZ;have ec:M.cellsOf (M.aq m c.to)=M.cellsOf (M.aq m c.a):=by unfold M.cellsOf;rw[al.1,al.2.1,al.2.2]
  apply List.ext_getElem
  ·rw[jh,List.length_range,jh,ec];omega
  ·intro q h1 h2
   rw[List.getElem_map,List.getElem_map,List.getElem_range];have hq:q<la.length:=by simpa using h2
   have E6:(q:Int)<M.cellsOf (M.aq m c.to):=by rw[ec];omega
   rw[H.E4 hk]
   congr 1
   have dz:=Fc.z;obtain⟨p1,p2,p3,p4,p5,p6,p7⟩:=H.ajD dz (q:=q) E6;rw[O.yx (by rw[hl]) (by omega) (by rw[al.1];exact p2) (by omega) (by rw[al.2.1];exact p4) (by omega) (by rw[al.2.2];exact p6)];unfold D.bN D.get;rw[al.2.1,al.2.2,p7,ak (by omega),ey,List.getD,aT hq]
   rfl
 have ul:∀n,cH (wo m (l++H.eU s c::(mid++rest))) n+(cM c).count n=cH m n:=by
  intro n;unfold cH;rw[e,vy l _ s,<-j4 l mid (c::rest),vy (l++mid) rest c];show iO (l++H.eU s c::(mid++rest)) n+m.aJ.count n+_=_;rw[vy,j4];show iO (l++(mid++rest)) n+(cM s).count n+m.aJ.count n+_=_;omega
 have only:∀n,0<cH (wo m (l++H.eU s c::(mid++rest))) n->n≠s.to:=by
  intro n h he;have h1:=ul n;rw[he,ha,hu,rc] at h1;simp at h1;rw[he,ha] at h;omega
 have fj:O.jN m (H.eU s c) (D.bW C s.a) (D.bW C s.b):=by
  have fo:=Fs.dQ;have QH:=Fc.dQ;have hb:=D.BL (x:=s.lo) Iv;have BU:=D.BL (x:=s.hi) Iv;have l1:=QH.lo;have l2:=QH.hi;refine⟨?_,?_,?_,Fc.z,Fs.a,Fs.na,Fs.ca,Fs.b,Fs.nb,Fs.cb,Fs.w,Fs.lw,Fs.cw,Fs.bi,Fs.li,Fs.ci⟩
  ·exact H.ajE fo QH hr Iv
  ·rw[Mo]
   have:=Fs.bT;rw[Mo] at this;show WI s _ _ _ _ (px (M.aq m c.to))=true;have ez:px (M.aq m c.to)=px (M.aq m s.to):=by unfold px;rw[ha,al.1,al.2.1,al.2.2]
   rw[ez];exact this
  ·unfold M.lG
   simp only[fh,Bool.not_eq_true',decide_eq_false_iff_not];refine⟨⟨?_,qs.1.2⟩,?_⟩
   ·show ¬(R.cU s.hi c.lo c.hi<R.cU s.lo c.lo c.hi)
    have:=ajA WN Iv;omega
   ·have:=qs.2
    unfold M.jS at this ⊢;simp only[ha,zz] at this;exact this
 refine⟨S.nt,?_,S.nu,S.BS,S.kN,fun p hp=>?_,fun p hp=>?_,fun p hp=>?_,?_,?_,fun p hp=>?_,fun p hp=>?_,fun n hn=>?_,fun n h0 h1=>?_,S.sN,S.cells⟩
 ·have:=S.no;rw[e] at this;show(l++H.eU s c::(mid++rest)).length<=16;simp at this ⊢;omega
 ·rcases(show p∈l++(mid++rest)\/p=H.eU s c by simp[wo] at hp ⊢;rcases hp with h|h|h|h<;>simp[h]) with h|h
  ·exact QF (S.fi p (sub p h)) _
  ·rw[h];exact QF fj _
 ·rcases(show p∈l++(mid++rest)\/p=H.eU s c by simp[wo] at hp ⊢;rcases hp with h|h|h|h<;>simp[h]) with h|h
  ·exact S.eq p (sub p h)
  ·rw[h]
   show D.bW C c.to=O.iu m (H.eU s c) (D.bW C s.a) (D.bW C s.b);rw[mj,<-S.eq s hs,ha,S.eq c hc];exact mc _ _ Fc.na
 ·rcases(show p∈l++(mid++rest)\/p=H.eU s c by simp[wo] at hp ⊢;rcases hp with h|h|h|h<;>simp[h]) with h|h
  ·exact S.to p (sub p h)
  ·rw[h];exact S.to c hc
 ·have nd:=S.nd
  rw[e] at nd;show((l++H.eU s c::(mid++rest)).map (·.to)).Nodup;have pm:List.Perm ((l++H.eU s c::(mid++rest)).map (·.to)) ((l++(mid++c::rest)).map (·.to)):=by
   simp only[lH,List.map_cons];refine List.Perm.append_left _ ?_;exact(List.perm_middle (a:=c.to) (l₁:=mid.map (·.to)) (l₂:=rest.map (·.to))).symm
  refine pm.nodup_iff.mpr (List.Nodup.sublist ?_ nd);exact((List.sublist_cons_self s (mid++c::rest)).append_left l).map _
 ·have ho:=S.xl
  rw[e] at ho;obtain⟨o1,o2,o3⟩:=Ord.append.mp ho;obtain⟨o4,-,o6⟩:=Ord.append.mp o3;refine Ord.append.mpr ⟨Ord.congr d.len o1 fun p hp n hn k=>⟨k,id⟩,⟨fun n hn=>?_,Ord.append.mpr ⟨Ord.congr d.len o4 fun p hp n hn k=>⟨k,fun hs=>?_⟩,Ord.congr d.len o6 fun p hp n hn k=>⟨k,fun hs=>?_⟩⟩⟩⟩
  ·exact o2 n hn
  ·have:=only n (sP.mpr (.inl ⟨p,by show p∈_++_;simp[hp],hn⟩))
   simp only[Ac,WO] at hs ⊢;rcases hs with h|h
   ·exact .inl h
   ·exact aN h this
  ·have:=only n (sP.mpr (.inl ⟨p,by show p∈_++_;simp[hp],hn⟩))
   simp only[Ac,WO] at hs ⊢;rcases hs with((h|h)|h)|h
   ·exact .inl (.inl h)
   ·exact aN h this
   ·exact .inr h
   ·exact .inl (.inr h)
 ·rcases(show p∈l++(mid++rest)\/p=H.eU s c by simp[wo] at hp ⊢;rcases hp with h|h|h|h<;>simp[h]) with h|h
  ·exact S.Ab p (sub p h)
  ·rw[h];exact S.Ab s hs
 ·rcases(show p∈l++(mid++rest)\/p=H.eU s c by simp[wo] at hp ⊢;rcases hp with h|h|h|h<;>simp[h]) with h|h
  ·exact S.ws p (sub p h)
  ·rw[h];exact S.ws s hs
 ·obtain⟨a,h2⟩:=S.aJ n hn
  refine⟨⟨a.1,a.2.1,fun k=>?_⟩,h2⟩;have h:=a.2.2 k;have:=only n (sP.mpr (.inr hn));rw[e] at h;show n∈(l++H.eU s c::(mid++rest)).map (·.to);simp only[lH,List.map_cons,Ac,List.mem_cons] at h ⊢;show _\/n=c.to\/_;rcases h with h|h|h|h|h
  ·exact .inl h
  ·exact aN h this
  ·exact .inr (.inr (.inl h))
  ·exact .inr (.inl h)
  ·exact .inr (.inr (.inr h))
 ·exact S.data n (by have:=ul n;omega) h1
end H
namespace H
theorem WQ(l mid:List M.Op)(s:M.Op)(f:M.Op->M.Op):(l++s::mid).modify l.length f=l++f s::mid:=by
 induction l with
 | nil=>rfl
 | cons a l ih=>show a::(l++s::mid).modify l.length f=_;rw[ih];rfl
theorem QI{m:M.Md}{left:List M.Op}{o:M.Op}{i:Nat}(h:og m left o=some i):o.af=7/\cH m o.a=1/\∃s,left[i]?=some s/\sO s=true/\s.to=o.a:=by
 unfold og at h
 split at h
 ·rename_i hc
  obtain⟨hi,hp,-⟩:=List.findIdx?_eq_some_iff_getElem.mp h;unfold vu at hp;simp only[fh,beq_iff_eq] at hp;exact⟨hc.1,hc.2,_,aT hi,hp⟩
 ·exact aN h (by simp)
theorem QJ{m:M.Md}{C:List (List Int)}:∀(rest left:List M.Op),dH (wo m (left++rest)) C->(∀n,cH (wo m (left++rest)) n<=cH m n) ->
  dH (wo m (rest.foldl (joinStep m) left)) C/\∀n,cH (wo m (rest.foldl (joinStep m) left)) n<=cH m n
 | [],left,h,hu=>by rw[List.append_nil] at h;exact⟨h,fun n=>by have:=hu n;rwa [List.append_nil] at this⟩
 | o::rest,left,h,hu=>by
  rw[List.foldl_cons];have hs:joinStep m left o=match og m left o with|some i=>left.modify i (fun s=>eU s o)|none=>left++[o]:=rfl
  cases hh:og m left o with
  | none=>
   rw[hs,hh];refine QJ rest (left++[o]) ?_ fun n=>?_
   ·rw[j4];exact h
   ·have:=hu n;rw[j4];exact this
  | some i=>
   rw[hs,hh];obtain⟨k7,u1,s,hi,hr,ha⟩:=QI hh;obtain⟨e,-⟩:=Iu hi;have hl:i=(left.take i).length:=by rw[Ae];have:=M.bP hi;omega
   generalize hL:left.take i=l at *;generalize left.drop (i+1)=mid at *;subst hl;subst e;show dH (wo m (rest.foldl (joinStep m) ((l++s::mid).modify l.length fun s=>eU s o))) C/\∀n,cH (wo m (rest.foldl (joinStep m) ((l++s::mid).modify l.length fun s=>eU s o))) n<=cH m n;rw[WQ];have e1:l++s::mid++o::rest=l++s::(mid++o::rest):=by simp
   have u2:cH (wo m (l++s::mid++o::rest)) o.a=1:=by
    have h1:=hu o.a;have h2:0<cH (wo m (l++s::mid++o::rest)) o.a:=sP.mpr (.inl ⟨o,by show o∈_++_;simp,vx o⟩);omega
   have J:=dH.eU h (l:=l) (mid:=mid) (rest:=rest) (s:=s) (c:=o) e1 hr k7 ha u2;refine QJ rest (l++eU s o::mid) ?_ fun n=>?_
   ·have e2:l++eU s o::mid++rest=l++eU s o::(mid++rest):=by simp
    rw[e2];exact J
   ·have h1:=hu n
    unfold cH at h1 ⊢;have e2:l++eU s o::mid++rest=l++eU s o::(mid++rest):=by simp
    have b1:iO (wo m (l++s::mid++o::rest)).ag n=iO (l++(mid++rest)) n+(cM s).count n+(cM o).count n:=by
     show iO (l++s::mid++o::rest) n=_;rw[e1,vy,<-j4 l mid,vy,j4];omega
    have b2:iO (wo m (l++eU s o::mid++rest)).ag n=iO (l++(mid++rest)) n+(cM s).count n:=by
     show iO (l++eU s o::mid++rest) n=_;rw[e2,vy];rfl
    rw[b1] at h1;rw[b2];show _+m.aJ.count n<=_;have h3:iO (l++(mid++rest)) n+(cM s).count n+(cM o).count n+m.aJ.count n<=iO m.ag n+m.aJ.count n:=h1;omega
theorem dH.oS{m:M.Md}{C:List (List Int)}(s:dH m C):dH (oS m) C:=(QJ m.ag [] s fun _=>bj _).1
theorem QK(m:M.Md)(n:Int):M.aq (mL m) n=if 0<cH m n then M.aq m n else { M.aq m n with data:=[] }:=by
 by_cases c:n<0\/(m.au.length:Int)<=n
 ·have e:M.aq m n=M.uY:=by unfold M.aq;rw[ay c]
  have e':M.aq (mL m) n=M.uY:=by unfold M.aq;rw[ay (by show n<0\/((m.au.mapIdx (Aa m)).length:Int)<=n;rw[List.length_mapIdx];exact c)]
  rw[e,e'];split<;>rfl
 ·obtain⟨k,rfl⟩:=fR (show 0<=n by omega)
  have hk:k<m.au.length:=by omega
  have e:M.aq m k=m.au[k]:=by unfold M.aq;rw[ak c,ey,List.getD,aT hk];rfl
  have e':M.aq (mL m) k=Aa m k m.au[k]:=by
   unfold M.aq;rw[ak (by show ¬((k:Int)<0\/((m.au.mapIdx (Aa m)).length:Int)<=k);rw[List.length_mapIdx];exact c)];show(m.au.mapIdx (Aa m)).getD _ _=_;rw[ey,List.getD,List.getElem?_mapIdx,aT hk];rfl
  rw[e,e'];unfold Aa;by_cases hu:cH m k=0
  ·rw[ay hu,ak (by omega)]
  ·rw[ak hu,ay (by omega)]
theorem Ms(m:M.Md):(mL m).au.length=m.au.length:=List.length_mapIdx
theorem sQ(m:M.Md)(n:Int):(M.aq (mL m) n).af=(M.aq m n).af:=by rw[QK];split<;>rfl
theorem WR(m:M.Md):mg m (mL m):=by
 refine⟨Ms m,fun n=>?_,fun n=>?_,fun n=>?_,fun n=>?_⟩<;>rw[QK]<;>split<;>rfl
theorem QL{m:M.Md}{n:Int}(h:0<cH m n):(M.aq (mL m) n).data=(M.aq m n).data:=by rw[QK,ay h]
theorem dH.mL{m:M.Md}{C:List (List Int)}(s:dH m C):dH (mL m) C:=by
 have d:=WR m;have hW:∀o∈m.ag,M.cm o.af=true->(M.aq (H.mL m) o.aP).data=(M.aq m o.aP).data/\(M.aq (H.mL m) o.bA).data=(M.aq m o.bA).data:=
  fun o ho h=>⟨QL (sP.mpr (.inl ⟨o,ho,(WK h).1⟩)),QL (sP.mpr (.inl ⟨o,ho,(WK h).2⟩))⟩
 have ln:=Ms m;refine⟨by rw[ln];exact s.nt,s.no,s.nu,fun n h0 h1=>?_,fun n h0 h1=>d.kN (s.kN n h0 (by omega)),fun o ho=>d.BP (s.fi o ho) (hW o ho),fun o ho=>?_,fun o ho=>?_,s.nd,?_,fun o ho=>?_,fun o ho h=>?_,fun n hn=>?_,fun n h0 h1=>?_,fun n h0 h1 h2=>?_,fun n h0 h1 h2=>?_⟩
 ·rw[sQ];exact s.BS n h0 (by omega)
 ·rw[d.iu (hW o ho)];exact s.eq o ho
 ·rw[sQ,ln];exact s.to o ho
 ·exact Ord.congr ln s.xl fun o ho n hn k=>⟨by rw[sQ] at k;exact k,id⟩
 ·rw[sQ,sQ];exact s.Ab o ho
 ·rw[sQ,sQ];exact s.ws o ho h
 ·obtain⟨a,h⟩:=s.aJ n hn
  exact⟨⟨a.1,by rw[ln];exact a.2.1,fun k=>a.2.2 (by rw[sQ] at k;exact k)⟩,by rw[sQ];exact h⟩
 ·have Mt:0<cH m n:=h0
  rw[sQ] at h1;rw[QL Mt];exact s.data n Mt h1
 ·rw[sQ] at h2
  rw[d.cells];exact s.sN n h0 (by omega) h2
 ·rw[sQ] at h2
  exact s.cells n h0 (by omega) h2
theorem dH.jD{m:M.Md}{C:List (List Int)}(s:dH m C):dH (jD m) C:=s.iP.drop.oS.mL
theorem ajF{m:M.Md}{C:List (List Int)}{o:M.Op}{n:Int}(h0:0<=o.to)(h:o.to≠n):D.bW (O.step m C o) n=D.bW C n:=by
 unfold O.step D.bW;by_cases c:n<0
 ·rw[ay c,ay c]
 ·rw[ak c,ak c,D.zZ,ak (by omega)]
theorem ajG{m:M.Md}{C:List (List Int)}{o:M.Op}(h0:0<=o.to)(h1:o.to<C.length):D.bW (O.step m C o) o.to=O.iu m o (D.bW C o.a) (D.bW C o.b):=by
 unfold O.step;generalize O.iu m o (D.bW C o.a) (D.bW C o.b)=l;unfold D.bW;rw[ak (by omega),D.zZ,ay ⟨rfl,by omega⟩]
theorem Mu{m:M.Md}{n:Int}:∀(os:List M.Op) (C:List (List Int)),(∀o∈os,0<=o.to/\o.to≠n)->D.bW (os.foldl (O.step m) C) n=D.bW C n
 | [],_,_=>rfl
 | o::os,C,h=>by
  rw[List.foldl_cons,Mu os _ fun p hp=>h p (sL _ hp)];exact ajF (h o pq).1 (h o pq).2
theorem WS{l:List M.Op}{i:Nat}{o:M.Op}(h:l[i]?=some o):l=l.take i++o::l.drop (i+1):=(Iu h).1
theorem Mv{m:M.Md}{n:Int}(h0:0<=n)(h1:n<m.au.length):(m.au.map (·.af)).getD n.toNat 0=(M.aq m n).af:=O.Ml (O.kM h0 h1).1
theorem WT{m:M.Md}(h1:O.iN m){i:Nat}{o:M.Op}(_ho:m.ag[i]?=some o){n:Int}(hn:M.tW m n i)(C:List (List Int)) :
  D.bW (m.ag.foldl (O.step m) C) n=D.bW ((m.ag.take i).foldl (O.step m) C) n:=by
 conv=>lhs;rw[show m.ag=m.ag.take i++m.ag.drop i from (List.take_append_drop _ _).symm]
 rw[List.foldl_append];refine Mu _ _ fun p hp=>?_;obtain⟨j,hj⟩:=mM hp;rw[List.getElem?_drop] at hj;have hk:=O.mf (h1.to _ p hj);refine⟨hk.1,fun e=>?_⟩;obtain⟨n0,n1,-,n3⟩:=hn;rw[Mv n0 n1] at n3;obtain⟨q,r,hq,hr,he⟩:=n3 (by rw[<-e];exact hk.2.2);exact h1.Qx.apart q (i+j) r p (by omega) (M.bP hj) hr hj (by rw[he,e])
theorem Mw{m:M.Md}(h1:O.iN m){ins:List (List Int)}(hi:D.jM m ins=true):dH m (O.fK m ins):=by
 have hE:=O.Ip h1 hi m.ag.length (bj _);rw[jo] at hE;have get:∀n:Int,0<=n->n<m.au.length->m.au[n.toNat]?=some (M.aq m n)/\M.aq m n∈m.au:=fun n h0 h1=>O.kM h0 h1;have ca:∀n:Int,0<=n->D.bW (O.fK m ins) n=(O.fK m ins).getD n.toNat []:=fun n h=>by unfold D.bW;rw[ak (by omega)]
 have mem:∀o∈m.ag,∃i:Nat,m.ag[i]?=some o:=fun o ho=>mM ho;have ta:∀{i:Nat} {o:M.Op},m.ag[i]?=some o->D.bW (O.fK m ins) o.a=D.bW ((m.ag.take i).foldl (O.step m) (O.mJ m.au ins)) o.a:=fun ho=>WT h1 ho (h1.a _ _ ho) _;have tb:∀{i:Nat} {o:M.Op},m.ag[i]?=some o->M.dr o.af=true->D.bW (O.fK m ins) o.b=D.bW ((m.ag.take i).foldl (O.step m) (O.mJ m.au ins)) o.b:=fun ho h=>WT h1 ho (h1.b _ _ ho h) _;have av:∀(i:Nat) (n:Int),i<=m.ag.length->M.tW m n i->Av m ((m.ag.take i).map (·.to)) n:=by
  intro i n hi ⟨n0,n1,n2,n3⟩;refine⟨n0,n1,fun k=>?_⟩;rw[Mv n0 n1] at n3;obtain⟨j,o,hj,ho,he⟩:=n3 k;refine List.mem_map.mpr ⟨o,?_,he⟩;refine bV (i:=j) ?_;rw[List.getElem?_take,ay (by omega)];exact ho
 have t2:∀{n:Int} {i:Int},M.tW m n i->(M.aq m n).af≠2:=fun {n i} ⟨n0,n1,n2,_⟩=>by rw[<-Mv n0 n1];exact n2
 refine⟨h1.nt,h1.no,h1.dQ.nu,fun n h0 h2=>?_,fun n h0 h2=>h1.kN _ (get n h0 h2).2,fun o ho=>?_,fun o ho=>?_,fun o ho=>?_,?_,?_,fun o ho=>?_,fun o ho h=>?_,fun n hn=>?_,fun n _ hk=>?_,fun n h0 h2 h3=>?_,fun n h0 h2 h3=>?_⟩
 ·have:=h1.dQ.ts _ (get n h0 h2).2;exact⟨this.k0,this.k1⟩
 ·obtain⟨i,mK⟩:=mem o ho
  have F:=(O.Ip h1 hi i (Nat.le_of_lt (M.bP mK))).BP h1 mK;rw[<-ta mK] at F
  cases h2:M.dr o.af with
  | true=>rw[<-tb mK h2] at F;exact F
  | false=>exact QB F h2
 ·obtain⟨i,mK⟩:=mem o ho
  have hk:=O.mf (h1.to i o mK);have hl:((m.ag.take i).foldl (O.step m) (O.mJ m.au ins)).length=m.au.length:=(O.Ip h1 hi i (Nat.le_of_lt (M.bP mK))).Mm;have e:D.bW (O.fK m ins) o.to=O.iu m o (D.bW ((m.ag.take i).foldl (O.step m) (O.mJ m.au ins)) o.a) (D.bW ((m.ag.take i).foldl (O.step m) (O.mJ m.au ins)) o.b):=by
   show D.bW (m.ag.foldl (O.step m) (O.mJ m.au ins)) o.to=_
   conv=>lhs;rw[WS mK]
   rw[List.foldl_append,List.foldl_cons,Mu]
   ·exact ajG hk.1 (by rw[hl];exact hk.2.1)
   ·intro p hp
    obtain⟨j,hj⟩:=mM hp;rw[List.getElem?_drop] at hj;exact⟨(O.mf (h1.to _ p hj)).1,fun e=>h1.Qx.apart i _ o p (by omega) (M.bP hj) mK hj e.symm⟩
  rw[e,ta mK]
  cases h2:M.dr o.af with
  | true=>rw[tb mK h2]
  | false=>exact Qz m h2 _ _ _
 ·obtain⟨i,mK⟩:=mem o ho;exact O.mf (h1.to i o mK)
 ·refine List.pairwise_iff_getElem.mpr fun i j hi hj rF=>?_
  rw[jh] at hj;rw[List.getElem_map,List.getElem_map];exact h1.Qx.apart i j _ _ rF hj (aT (by omega)) (aT hj)
 ·have cK:∀k,k<=m.ag.length->Ord m [] (m.ag.take k):=by
   intro k
   induction k with
   | zero=>intro _;exact trivial
   | succ k ih=>
    intro hk;have hx:m.ag[k]?=some m.ag[k]:=aT (by omega);rw[List.take_add_one,hx];refine Ord.append.mpr ⟨ih (by omega),⟨fun n hn=>?_,trivial⟩⟩;rw[List.nil_append];rcases ajx hn with rfl|⟨h2,rfl⟩|⟨h2,h3⟩
    ·exact av k _ (by omega) (h1.a k _ hx)
    ·exact av k _ (by omega) (h1.b k _ hx h2)
    ·obtain⟨w1,w2⟩:=h1.ws k _ hx h2
     rcases h3 with rfl|rfl
     ·have:=O.mf w1;exact⟨this.1,this.2.1,fun h=>by omega⟩
     ·have:=O.mf w2;exact⟨this.1,this.2.1,fun h=>by omega⟩
  have:=cK m.ag.length (bj _)
  rwa [jo] at this
 ·obtain⟨i,mK⟩:=mem o ho
  exact⟨t2 (h1.a i o mK),fun h=>t2 (h1.b i o mK h)⟩
 ·obtain⟨i,mK⟩:=mem o ho
  obtain⟨w1,w2⟩:=h1.ws i o mK h;exact⟨(O.mf w1).2.2,(O.mf w2).2.2⟩
 ·have:=h1.aJ n hn
  have a:=av m.ag.length n (bj _) this;rw[jo] at a;exact⟨a,t2 this⟩
 ·by_cases c:n<0\/(m.au.length:Int)<=n
  ·exfalso
   unfold M.aq at hk;rw[ay c] at hk;exact aN hk (by decide)
  ·rw[ca n (by omega)]
   have g:=(get n (by omega) (by omega)).1;have e1:=hE.eq n.toNat _ g (by omega);have e2:=hE.data n.toNat _ g (.inl hk);exact e1.trans e2
 ·rw[ca n h0]
  refine hE.sN n.toNat _ (get n h0 h2).1 h3 fun k=>?_;obtain⟨j,o,hj,he⟩:=h1.all n.toNat (by omega) (by rw[Mv h0 h2];exact k);exact⟨j,o,M.bP hj,hj,he⟩
 ·rw[ca n h0]
  exact hE.cells n.toNat _ (get n h0 h2).1 h3
end H
namespace H
structure dE where
 f:Int
 t:Int
 c:Int
structure Bf where
 a:Int
 c:Int
def bQ:dE:=⟨0,0,0⟩
def aV:Bf:=⟨0,0⟩
def Bf.e(b:Bf):Int:=b.a+b.c
def mN(x y:dE):Bool:=decide (x.f<=y.t)&&decide (y.f<=x.t)
def rI(x:dE)(b:Bf)(l:dE)(p:Int):Bool:=mN x l&&decide (p<b.e)&&decide (b.a<p+l.c)
def Af(lv:List dE)(ld:List Bf)(l:dE)(p:Int)(k:Nat):Bool:=(List.range k).all fun i=>!rI (lv.getD i bQ) (ld.getD i aV) l p
def ud(lv:List dE)(ld:List Bf)(l:dE)(p:Int):Bool:=Af lv ld l p (min lv.length ld.length)
def endTo(ld:List Bf):Nat->Int
 | 0=>0
 | k+1=>if endTo ld k<(ld.getD k aV).e then (ld.getD k aV).e else endTo ld k
def gR(ld:List Bf):Int:=endTo ld ld.length
def py(lv:List dE)(ld:List Bf):Nat->Int×Int
 | 0=>(-1,0)
 | k+1=>if (ld.getD k aV).c=0/\(py lv ld k).2<(lv.getD k bQ).c then ((k:Int),(lv.getD k bQ).c) else py lv ld k
def pz(lv:List dE)(ld:List Bf):Int:=(py lv ld (min lv.length ld.length)).1
def oT(lv:List dE)(ld:List Bf)(l:dE):Nat->Int
 | 0=>gR ld
 | k+1=>if (ld.getD k aV).e<oT lv ld l k/\ud lv ld l (ld.getD k aV).e=true then (ld.getD k aV).e else oT lv ld l k
def qa(lv:List dE)(ld:List Bf)(l:dE):Int:=if ud lv ld l 0=true then 0 else oT lv ld l ld.length
def put(lv:List dE)(ld:List Bf)(i:Nat):List Bf:=ld.set i ⟨qa lv ld (lv.getD i bQ),(lv.getD i bQ).c⟩
def BV(lv:List dE)(ld:List Bf):List Bf:=if pz lv ld<0\/(ld.length:Int)<=pz lv ld then ld else put lv ld (pz lv ld).toNat
def fI(lv:List dE):Nat->List Bf
 | 0=>List.replicate lv.length aV
 | k+1=>BV lv (fI lv k)
def eZ(lv:List dE):List Bf:=fI lv lv.length
def sumC:List Bf->Int
 | []=>0
 | b::l=>b.c+sumC l
theorem QM(l:List Bf)(i n:Nat)(x:Bf):(l.set i x).getD n aV=if i=n/\n<l.length then x else l.getD n aV:=by
 rw[List.getD,List.getD,oe];by_cases h:i=n
 ·subst h
  by_cases hl:i<l.length
  ·simp[hl]
  ·simp[hl]
 ·simp[h]
theorem QN{ld:List Bf}:∀{k i:Nat},i<k->(ld.getD i aV).e<=endTo ld k
 | 0,i,h=>aN h (by omega)
 | k+1,i,h=>by
  unfold endTo;rcases(show i<k\/i=k by omega) with h' | rfl
  ·have:=QN (ld:=ld) h';split<;>omega
  ·split<;>omega
theorem BW(ld:List Bf):∀k,0<=endTo ld k
 | 0=>Int.le_refl _
 | k+1=>by have:=BW ld k;unfold endTo;split<;>omega
theorem Iw{ld:List Bf}{B:Int}(h0:0<=B):∀k,(∀i,i<k->(ld.getD i aV).e<=B)->endTo ld k<=B
 | 0,_=>h0
 | k+1,h=>by
  have:=Iw h0 k fun i hi=>h i (by omega);have:=h k (by omega);unfold endTo;split<;>omega
theorem QO{ld:List Bf}{i:Nat}(h:i<ld.length):(ld.getD i aV).e<=gR ld:=QN h
theorem Ix{lv:List dE}{ld:List Bf}{l:dE}{p:Int}{k:Nat}:Af lv ld l p k=true↔∀i,i<k->rI (lv.getD i bQ) (ld.getD i aV) l p=false:=by
 unfold Af;rw[jg]
 constructor
 ·intro h i hi
  have:=h i (List.mem_range.mpr hi)
  simpa using this
 ·intro h i hi
  rw[h i (List.mem_range.mp hi)];rfl
theorem ajH{x l:dE}{b:Bf}{p:Int}(h:rI x b l p=false)(hm:mN x l=true):b.e<=p\/p+l.c<=b.a:=by
 unfold rI at h;rw[hm] at h;simp at h;by_cases c:p<b.e
 ·exact .inr (h c)
 ·exact .inl (by omega)
theorem ajI{lv:List dE}{ld:List Bf}(l:dE)(hl:lv.length=ld.length):ud lv ld l (gR ld)=true:=by
 unfold ud;refine Ix.mpr fun i hi=>?_;have:=QO (ld:=ld) (i:=i) (by omega);unfold rI;rw[eD (show ¬gR ld<(ld.getD i aV).e by omega)];simp
theorem WU{lv:List dE}{ld:List Bf}{l:dE}(hl:lv.length=ld.length)(h0:∀i,i<ld.length->0<=(ld.getD i aV).e):∀k,k<=ld.length->ud lv ld l (oT lv ld l k)=true/\0<=oT lv ld l k/\oT lv ld l k<=gR ld
 | 0,_=>⟨ajI l hl,BW _ _,Int.le_refl _⟩
 | k+1,hk=>by
  obtain⟨h1,h2,h3⟩:=WU (lv:=lv) (l:=l) hl h0 k (by omega);unfold oT
  split
  ·rename_i c
   exact⟨c.2,h0 k (by omega),by omega⟩
  ·exact⟨h1,h2,h3⟩
theorem ajJ{lv:List dE}{ld:List Bf}{l:dE}(hl:lv.length=ld.length)(h0:∀i,i<ld.length->0<=(ld.getD i aV).e):ud lv ld l (qa lv ld l)=true/\0<=qa lv ld l/\qa lv ld l<=gR ld:=by
 unfold qa
 split
 ·rename_i c;exact⟨c,Int.le_refl _,BW _ _⟩
 ·exact WU hl h0 _ (bj _)
theorem WV{lv:List dE}{ld:List Bf}:∀k,(py lv ld k).1 = -1/\(py lv ld k).2=0/\(∀i,i<k->(ld.getD i aV).c=0->(lv.getD i bQ).c<=0) \/
  ∃i:Nat,i<k/\(py lv ld k).1=i/\(ld.getD i aV).c=0/\(py lv ld k).2=(lv.getD i bQ).c/\0<(lv.getD i bQ).c
 | 0=>.inl ⟨rfl,rfl,fun i hi=>aN hi (by omega)⟩
 | k+1=>by
  unfold py;rcases WV (lv:=lv) (ld:=ld) k with⟨h1,h2,h3⟩|⟨i,hi,h1,h2,h3,h4⟩
  ·by_cases c:(ld.getD k aV).c=0/\(py lv ld k).2<(lv.getD k bQ).c
   ·rw[ay c]
    exact .inr ⟨k,by omega,rfl,c.1,rfl,by rw[h2] at c;exact c.2⟩
   ·rw[ak c]
    refine .inl ⟨h1,h2,fun i hi h0=>?_⟩;rcases(show i<k\/i=k by omega) with h' | rfl
    ·exact h3 i h' h0
    ·rw[h2] at c
     have:¬0<(lv.getD i bQ).c:=fun h=>c ⟨h0,h⟩;omega
  ·by_cases c:(ld.getD k aV).c=0/\(py lv ld k).2<(lv.getD k bQ).c
   ·rw[ay c]
    exact .inr ⟨k,by omega,rfl,c.1,rfl,by rw[h3] at c;omega⟩
   ·rw[ak c]
    exact .inr ⟨i,by omega,h1,h2,h3,h4⟩
structure DH(lv:List dE)(ld:List Bf):Prop where
 len:ld.length=lv.length
 bN:∀i,i<lv.length->ld.getD i aV=aV\/((ld.getD i aV).c=(lv.getD i bQ).c/\0<=(ld.getD i aV).a)
 apart:∀i j,i<lv.length->j<lv.length->i≠j->0<(ld.getD i aV).c->0<(ld.getD j aV).c->mN (lv.getD i bQ) (lv.getD j bQ)=true->(ld.getD i aV).e<=(ld.getD j aV).a\/(ld.getD j aV).e<=(ld.getD i aV).a
 sum:gR ld<=sumC ld
theorem ajK(x y:dE):mN x y=mN y x:=by unfold mN;rw[Bool.and_comm]
theorem WW:∀(ld:List Bf) (i:Nat) (b:Bf),i<ld.length->sumC (ld.set i b)=sumC ld-(ld.getD i aV).c+b.c
 | [],_,_,h=>aN h (by simp)
 | x::l,0,b,_=>by simp[sumC];omega
 | x::l,i+1,b,h=>by
  have:=WW l i b (by simpa using h);simp only[List.set_cons_succ,sumC,List.getD_cons_succ];omega
theorem DH.ajL{lv:List dE}{ld:List Bf}(h:DH lv ld)(hc:∀i,i<lv.length->1<=(lv.getD i bQ).c)(i:Nat)(hi:i<ld.length):0<=(ld.getD i aV).e/\0<=(ld.getD i aV).a/\0<=(ld.getD i aV).c:=by
 have hl:=h.len;rcases h.bN i (by omega) with e|⟨e1,e2⟩
 ·rw[e];decide
 ·have:=hc i (by omega);unfold Bf.e;omega
theorem DH.put{lv:List dE}{ld:List Bf}(h:DH lv ld)(hc:∀i,i<lv.length->1<=(lv.getD i bQ).c){i:Nat}(hi:i<lv.length)(h0:(ld.getD i aV).c=0):DH lv (put lv ld i):=by
 have hl:=h.len;obtain⟨f1,f2,f3⟩:=ajJ (l:=lv.getD i bQ) hl.symm fun j hj=>(h.ajL hc j hj).1;have fr:=Ix.mp f1;have gs:∀n,(H.put lv ld i).getD n aV=if i=n/\n<ld.length then ⟨qa lv ld (lv.getD i bQ),(lv.getD i bQ).c⟩ else ld.getD n aV:=fun n=>QM _ _ _ _;have cK:∀j,j<lv.length->i≠j->0<(ld.getD j aV).c->mN (lv.getD j bQ) (lv.getD i bQ)=true->(ld.getD j aV).e<=qa lv ld (lv.getD i bQ)\/qa lv ld (lv.getD i bQ)+(lv.getD i bQ).c<=(ld.getD j aV).a:=
  fun j hj _ _ hm=>ajH (fr j (by omega)) hm
 refine⟨by unfold H.put;rw[kG];exact hl,fun n hn=>?_,fun a b ha hb Iy ca cb hm=>?_,?_⟩
 ·rw[gs]
  split
  ·rename_i c;exact .inr ⟨by rw[c.1],f2⟩
  ·exact h.bN n hn
 ·rw[gs a] at ca ⊢
  rw[gs b] at cb ⊢;by_cases c1:i=a/\a<ld.length
  ·rw[ay c1] at ca ⊢
   rw[ak (by omega)] at cb ⊢;obtain⟨rfl,-⟩:=c1;rw[ajK] at hm;rcases cK b hb Iy cb hm with k|k
   ·exact .inr k
   ·exact .inl k
  ·rw[ak c1] at ca ⊢
   by_cases c2:i=b/\b<ld.length
   ·rw[ay c2] at cb ⊢
    obtain⟨rfl,-⟩:=c2;rcases cK a ha (Ne.symm Iy) ca hm with k|k
    ·exact .inl k
    ·exact .inr k
   ·rw[ak c2] at cb ⊢
    exact h.apart a b ha hb Iy ca cb hm
 ·have hs:sumC (H.put lv ld i)=sumC ld-(ld.getD i aV).c+(lv.getD i bQ).c:=WW ld i _ (by omega)
  rw[hs,h0];have DI:=h.sum;have hci:=hc i hi;have nn:=BW ld ld.length;unfold gR at DI ⊢;refine Iw (by omega) _ fun n hn=>?_;rw[gs]
  split
  ·show qa lv ld (lv.getD i bQ)+(lv.getD i bQ).c<=_
   unfold gR at f3;omega
  ·have oO:n<ld.length:=by unfold H.put at hn;rwa [kG] at hn
   have:=QN (ld:=ld) oO;omega
def qK(ld:List Bf):Nat->Nat
 | 0=>0
 | k+1=>(if (ld.getD k aV).c=0 then 1 else 0)+qK ld k
theorem WX{ld:List Bf}:∀{k},qK ld k=0->∀i,i<k->(ld.getD i aV).c≠0
 | 0,_,i,hi=>aN hi (by omega)
 | k+1,h,i,hi=>by
  unfold qK at h;by_cases c:(ld.getD k aV).c=0
  ·rw[ay c] at h;omega
  ·rw[ak c] at h
   rcases(show i<k\/i=k by omega) with h' | rfl
   ·exact WX (by omega) i h'
   ·exact c
theorem WY(ld:List Bf):∀k,qK ld k<=k
 | 0=>bj _
 | k+1=>by have:=WY ld k;unfold qK;split<;>omega
theorem WZ{ld:List Bf}{i:Nat}{b:Bf}(hi:i<ld.length)(h0:(ld.getD i aV).c=0)(hb:b.c≠0):∀k,k<=ld.length->qK (ld.set i b) k+(if i<k then 1 else 0)=qK ld k
 | 0,_=>by simp[qK]
 | k+1,hk=>by
  have ih:=WZ hi h0 hb k (by omega);unfold qK;by_cases c:i=k
  ·subst c
   have e:(ld.set i b).getD i aV=b:=by rw[QM,ay ⟨rfl,hi⟩]
   rw[e,ak hb,ay h0,ay (show i<i+1 by omega)];rw[ak (show ¬i<i by omega)] at ih;omega
  ·have e:(ld.set i b).getD k aV=ld.getD k aV:=by rw[QM,ak (fun h=>c h.1)]
   rw[e];by_cases c2:i<k
   ·rw[ay c2] at ih
    rw[ay (show i<k+1 by omega)];omega
   ·rw[ak c2] at ih
    rw[ak (show ¬i<k+1 by omega)];omega
theorem QP{lv:List dE}(hc:∀i,i<lv.length->1<=(lv.getD i bQ).c):∀k,DH lv (fI lv k)/\qK (fI lv k) lv.length<=lv.length-k
 | 0=>by
  have g:∀i,(List.replicate lv.length aV).getD i aV=aV:=by
   intro i;rw[List.getD,tV]
   split<;>rfl
  refine⟨⟨by simp[fI],fun i hi=>.inl (g i),fun i j _ _ _ ci=>?_,?_⟩,by have:=WY (fI lv 0) lv.length;omega⟩
  ·unfold fI at ci;rw[g i] at ci;exact aN ci (by decide)
  ·have e1:gR (List.replicate lv.length aV)<=0:=Iw (by decide) _ fun i _=>by rw[g i];decide
   have e2:∀n,sumC (List.replicate n aV)=0:=by
    intro n
    induction n with
    | zero=>rfl
    | succ n ih=>rw[List.replicate_succ];unfold sumC;rw[ih];rfl
   show gR (List.replicate lv.length aV)<=sumC (List.replicate lv.length aV);rw[e2];exact e1
 | k+1=>by
  obtain⟨L,U⟩:=QP hc k;have hl:=L.len;show DH lv (BV lv (fI lv k))/\qK (BV lv (fI lv k)) lv.length<=_;unfold BV;have hm:min lv.length (fI lv k).length=lv.length:=by omega
  rcases WV (lv:=lv) (ld:=fI lv k) lv.length with⟨h1,h2,h3⟩|⟨i,hi,h1,h2,h3,h4⟩
  ·have e:pz lv (fI lv k) = -1:=by unfold pz;rw[hm];exact h1
   rw[ay (by omega)];refine⟨L,?_⟩;have z:qK (fI lv k) lv.length=0:=by
    have cK:∀n,n<=lv.length->qK (fI lv k) n=0:=by
     intro n
     induction n with
     | zero=>intro _;rfl
     | succ n ih=>
      intro hn;unfold qK;rw[ih (by omega),ak];intro h0;have:=h3 n (by omega) h0;have:=hc n (by omega);omega
    exact cK _ (bj _)
   omega
  ·have e:pz lv (fI lv k)=i:=by unfold pz;rw[hm];exact h1
   rw[ak (by omega),e,ey];refine⟨L.put hc hi h2,?_⟩;have:=WZ (ld:=fI lv k) (i:=i) (b:=⟨qa lv (fI lv k) (lv.getD i bQ),(lv.getD i bQ).c⟩) (by omega) h2 (by show(lv.getD i bQ).c≠0;omega) lv.length (by omega);rw[ay hi] at this;show qK ((fI lv k).set i _) lv.length<=_;omega
structure W3(lv:List dE)(ld:List Bf):Prop where
 len:ld.length=lv.length
 c:∀i,i<lv.length->(ld.getD i aV).c=(lv.getD i bQ).c
 a:∀i,i<lv.length->0<=(ld.getD i aV).a
 BX:∀i,i<lv.length->(ld.getD i aV).e<=gR ld
 apart:∀i j,i<lv.length->j<lv.length->i≠j->mN (lv.getD i bQ) (lv.getD j bQ)=true->(ld.getD i aV).e<=(ld.getD j aV).a\/(ld.getD j aV).e<=(ld.getD i aV).a
 sum:gR ld<=sumC ld
theorem ajM{lv:List dE}(hc:∀i,i<lv.length->1<=(lv.getD i bQ).c):W3 lv (eZ lv):=by
 obtain⟨L,U⟩:=QP hc lv.length;have z:=WX (k:=lv.length) (show qK (fI lv lv.length) lv.length=0 by omega);have xm:∀i,i<lv.length->(((fI lv lv.length).getD i aV).c=(lv.getD i bQ).c/\0<=((fI lv lv.length).getD i aV).a):=by
  intro i hi;rcases L.bN i hi with e|e
  ·exact aN (by rw[e];rfl) (z i hi)
  ·exact e
 exact⟨L.len,fun i hi=>(xm i hi).1,fun i hi=>(xm i hi).2,fun i hi=>QO (by rw[show eZ lv=fI lv lv.length from rfl,L.len];exact hi),fun i j hi hj rF hm=>L.apart i j hi hj rF (by rw[(xm i hi).1];have:=hc i hi;omega) (by rw[(xm j hj).1];have:=hc j hj;omega) hm,L.sum⟩
end H
end Go.Proofs.YtcnhfffgbamonabGreat
