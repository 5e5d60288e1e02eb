import Derived.Test.YtcnhfffgbamonabGreatZ29
import Derived.Test.YtcnhfffgbamonabGreatZ56
set_option maxRecDepth 100000
set_option maxHeartbeats 6400000
namespace Go.Proofs.YtcnhfffgbamonabGreat
open Go.Proofs.Tryz
open Go.RowKit
theorem Tryz.aqr:(prog.info? 142).map (fun i=>(i.zero,i.size,i.bytes))=some (some (.agg #[.int .i64 0,.int .i64 0,.int .i64 0,.int .i64 0,.int .i64 0,.slice none 0 0]),6,64):=by kernel_rfl
theorem Tryz.aqs:(prog.info? 172).map (fun i=>(i.zero,i.size,i.bytes))=some (some (.agg #[.int .i64 0,.slice none 0 0,.int .i64 0,.slice none 0 0]),4,64):=by kernel_rfl
def oZ(w:World)(base:Nat)(v:Value)(ts:List M.Tn):Prop:=
 ∃ps:List (M.Tn×Value),ps.map (·.1)=ts/\w.ownsRow base 142 6 v ts.length (ps.flatMap fun p=>(bg p.1 p.2).toList)/\∀p∈ps,aZ w base p.2 p.1.data
theorem oZ.nil(w:World)(base:Nat):oZ w base (.slice none 0 0) []:=⟨[],rfl,kq _ _ _ _,by simp⟩
theorem oZ.kept{w w':World}{base b:Nat}{v:Value}{ts:List M.Tn}(h:oZ w base v ts)(hg:w.grownBy w' (some b))(hb:b<base):oZ w' base v ts:=by
 obtain⟨ps,h1,h2,h3⟩:=h;exact⟨ps,h1,pf h2 hg hb,fun p hp=>(h3 p hp).kept hg hb⟩
theorem oZ.Z{w w':World}{base:Nat}{v:Value}{ts:List M.Tn}(h:oZ w base v ts)(hg:w.grownBy w' none):oZ w' base v ts:=by
 obtain⟨ps,h1,h2,h3⟩:=h;exact⟨ps,h1,eW h2 hg,fun p hp=>(h3 p hp).Z hg⟩
theorem oZ.pk{w w2:World}{B:Nat}{v v':Value}{ps:List (M.Tn×Value)}{ts:List M.Tn}{t:M.Tn}{dv:Value}(h1:ps.map (·.1)=ts)(h2:w.ownsRow B 142 6 v ts.length (ps.flatMap fun p=>(bg p.1 p.2).toList))(h3:∀p∈ps,aZ w B p.2 p.1.data)
  (hd:aZ w B dv t.data) (aM:w.grownBy w2 v.ownBlock)
  (cB:w2.ownsRow B 142 6 v' (ts.length+1) ((ps.flatMap fun p=>(bg p.1 p.2).toList)++(bg t dv).toList)):oZ w2 B v' (ts++[t]):=by
 refine⟨ps++[(t,dv)],by simp[h1],by simpa using cB,?_⟩;intro p hp;rcases List.mem_append.1 hp with hp|hp
 ·exact nV (h3 p hp) h2 (by decide) aM
 ·simp at hp
  subst hp;exact nV hd h2 (by decide) aM
theorem oZ.get{w:World}{base:Nat}{a:Option Addr}{n c:Nat}{ts:List M.Tn}(h:oZ w base (.slice a n c) ts)(i:Nat)(t:M.Tn)(hi:ts[i]?=some t) :
  ∃g ao cp,a=some ⟨g,0,none⟩/\n=ts.length/\base<=g/\aZ w base (.slice ao t.data.length cp) t.data /\
   w.cell? ⟨g,i*6,none⟩=some (.int .i64 t.af)/\w.cell? ⟨g,i*6+1,none⟩=some (.int .i64 t.h)/\w.cell? ⟨g,i*6+2,none⟩=some (.int .i64 t.w) /\
   w.cell? ⟨g,i*6+3,none⟩=some (.int .i64 t.c)/\w.cell? ⟨g,i*6+4,none⟩=some (.int .i64 t.zero)/\w.cell? ⟨g,i*6+5,none⟩=some (.slice ao t.data.length cp):=by
 obtain⟨ps,h1,h2,h3⟩:=h;have aK:i<ts.length:=by
  rcases cF i ts.length with h' | h'
  ·exact h'
  ·simp[cX h'] at hi
 obtain⟨g,ha,hb,hn,hc⟩:=nZ h2 (by omega);subst h1;rw[dY] at hi;obtain⟨p,hp,rfl⟩:=Option.map_eq_some_iff.1 hi;obtain⟨ao,cp,pW⟩:=Om (h3 p (bV hp));have hI:=h3 p (bV hp);rw[pW] at hI;have cK:∀j,j<6->w.cell? ⟨g,i*6+j,none⟩=(bg p.1 p.2).toList[j]?:=by
  intro j hj;rw[hc _ (by simp at aK ⊢;omega)];exact lL (fun p:M.Tn×Value=>(bg p.1 p.2).toList) 6 (fun a=>rfl) ps i j p hp hj
 refine⟨g,ao,cp,ha,hn,hb,hI,cK 0 (by omega),cK 1 (by omega),cK 2 (by omega),cK 3 (by omega),cK 4 (by omega),?_⟩;rw[cK 5 (by omega),pW]
 rfl
def pa(w:World)(base:Nat)(v:Value)(os:List R.Op):Prop:=
 ∃ps:List (R.Op×Value×Value),ps.map (·.1)=os/\w.ownsRow base 172 4 v os.length (ps.flatMap fun p=>(o4 p.1.af p.2.1 p.1.out p.2.2).toList)/\∀p∈ps,aZ w base p.2.1 p.1.ins/\aZ w base p.2.2 p.1.cO
theorem pa.nil(w:World)(base:Nat):pa w base (.slice none 0 0) []:=⟨[],rfl,kq _ _ _ _,by simp⟩
theorem pa.kept{w w':World}{base b:Nat}{v:Value}{os:List R.Op}(h:pa w base v os)(hg:w.grownBy w' (some b))(hb:b<base):pa w' base v os:=by
 obtain⟨ps,h1,h2,h3⟩:=h;exact⟨ps,h1,pf h2 hg hb,fun p hp=>⟨(h3 p hp).1.kept hg hb,(h3 p hp).2.kept hg hb⟩⟩
theorem pa.Z{w w':World}{base:Nat}{v:Value}{os:List R.Op}(h:pa w base v os)(hg:w.grownBy w' none):pa w' base v os:=by
 obtain⟨ps,h1,h2,h3⟩:=h;exact⟨ps,h1,eW h2 hg,fun p hp=>⟨(h3 p hp).1.Z hg,(h3 p hp).2.Z hg⟩⟩
theorem pa.pk{w w2:World}{B:Nat}{v v':Value}{ps:List (R.Op×Value×Value)}{os:List R.Op}{o:R.Op}{iv nv:Value}(h1:ps.map (·.1)=os)(h2:w.ownsRow B 172 4 v os.length (ps.flatMap fun p=>(o4 p.1.af p.2.1 p.1.out p.2.2).toList))(h3:∀p∈ps,aZ w B p.2.1 p.1.ins/\aZ w B p.2.2 p.1.cO)
  (hi:aZ w B iv o.ins) (hn:aZ w B nv o.cO) (aM:w.grownBy w2 v.ownBlock)
  (cB:w2.ownsRow B 172 4 v' (os.length+1) ((ps.flatMap fun p=>(o4 p.1.af p.2.1 p.1.out p.2.2).toList)++(o4 o.af iv o.out nv).toList)):pa w2 B v' (os++[o]):=by
 refine⟨ps++[(o,iv,nv)],by simp[h1],by simpa using cB,?_⟩;intro p hp;rcases List.mem_append.1 hp with hp|hp
 ·exact⟨nV (h3 p hp).1 h2 (by decide) aM,nV (h3 p hp).2 h2 (by decide) aM⟩
 ·simp at hp
  subst hp;exact⟨nV hi h2 (by decide) aM,nV hn h2 (by decide) aM⟩
theorem pa.get{w:World}{base:Nat}{a:Option Addr}{n c:Nat}{os:List R.Op}(h:pa w base (.slice a n c) os)(i:Nat)(o:R.Op)(hi:os[i]?=some o) :
  ∃g ai ci an cn,a=some ⟨g,0,none⟩/\n=os.length/\base<=g/\aZ w base (.slice ai o.ins.length ci) o.ins/\aZ w base (.slice an o.cO.length cn) o.cO /\
   w.cell? ⟨g,i*4,none⟩=some (.int .i64 o.af)/\w.cell? ⟨g,i*4+1,none⟩=some (.slice ai o.ins.length ci)/\w.cell? ⟨g,i*4+2,none⟩=some (.int .i64 o.out)/\w.cell? ⟨g,i*4+3,none⟩=some (.slice an o.cO.length cn):=by
 obtain⟨ps,h1,h2,h3⟩:=h;have aK:i<os.length:=by
  rcases cF i os.length with h' | h'
  ·exact h'
  ·simp[cX h'] at hi
 obtain⟨g,ha,hb,hn,hc⟩:=nZ h2 (by omega);subst h1;rw[dY] at hi;obtain⟨p,hp,rfl⟩:=Option.map_eq_some_iff.1 hi;obtain⟨hI,hN⟩:=h3 p (bV hp);obtain⟨ai,ci,FI⟩:=Om hI;obtain⟨an,cn,hsn⟩:=Om hN;rw[FI] at hI;rw[hsn] at hN;have cK:∀j,j<4->w.cell? ⟨g,i*4+j,none⟩=(o4 p.1.af p.2.1 p.1.out p.2.2).toList[j]?:=by
  intro j hj;rw[hc _ (by simp at aK ⊢;omega)];exact lL (fun p:R.Op×Value×Value=>(o4 p.1.af p.2.1 p.1.out p.2.2).toList) 4 (fun a=>rfl) ps i j p hp hj
 refine⟨g,ai,ci,an,cn,ha,hn,hb,hI,hN,cK 0 (by omega),?_,cK 2 (by omega),?_⟩
 ·rw[cK 1 (by omega),FI];rfl
 ·rw[cK 3 (by omega),hsn];rfl
def lB(w:World)(b:Nat)(g:R.bX):Prop:=
 ∃a1 c1 a2 c2 a3 c3,aj w b 137 #[.slice a1 g.ts.length c1,.slice a2 g.ag.length c2,.slice a3 g.aJ.length c3] /\
  oZ w (b+1) (.slice a1 g.ts.length c1) g.ts/\pa w (b+1) (.slice a2 g.ag.length c2) g.ag/\aZ w (b+1) (.slice a3 g.aJ.length c3) g.aJ
theorem lB.Z{w w':World}{b:Nat}{g:R.bX}(h:lB w b g)(hg:w.grownBy w' none):lB w' b g:=by
 obtain⟨a1,c1,a2,c2,a3,c3,h1,h2,h3,h4⟩:=h;exact⟨a1,c1,a2,c2,a3,c3,h1.kept hg (by simp),h2.Z hg,h3.Z hg,h4.Z hg⟩
namespace R
def AW(ts:List M.Tn)(os:List Op):List UInt8->fT bX:=nx (tk 1 false) fun n=>nx (many (tk 1 false) n.toNat) fun us=>ok ⟨ts,os,us⟩
def AX(ts:List M.Tn):List UInt8->fT bX:=nx (tk 1 false) fun n=>nx (many op n.toNat) fun os=>AW ts os
def EB:List UInt8->fT bX:=nx (tk 1 false) fun n=>nx (many fF n.toNat) fun ts=>AX ts
def BX(x:fT bX):Option bX:=match x with|some (g,[])=>some g|_=>none
theorem ac2{l:List UInt8}(h:l.length<4\/l.take 4≠M.Dm):ff l=none:=by unfold ff;rw[ay h]
theorem aqt{l:List UInt8}(h:¬(l.length<4\/l.take 4≠M.Dm)):ff l=BX (EB (l.drop 4)):=by unfold ff;rw[ak h];rfl
theorem ac3{α:Type}{f:List UInt8->fT α}{l:List UInt8}{k:Nat}(h:many f k l=none):∀j,many f (k+j) l=none
 | 0=>h
 | j+1=>by rw[<-Nat.add_assoc];show nx (many f (k+j)) _ l=none;rw[nx,ac3 h j]
theorem aqu{α:Type}{f:List UInt8->fT α}{l r r':List UInt8}{k:Nat}{xs:List α}{x:α}(h:many f k l=some (xs,r))(hx:f r=some (x,r')):many f (k+1) l=some (xs++[x],r'):=by
 show nx (many f k) (fun xs=>nx f fun x=>ok (xs++[x])) l=_;rw[nx,h];show nx f (fun x=>ok (xs++[x])) r=_;rw[nx,hx]
 rfl
theorem aqv{α:Type}{f:List UInt8->fT α}{l r:List UInt8}{k n:Nat}{xs:List α}(h:many f k l=some (xs,r))(hx:f r=none)(hk:k<n):many f n l=none:=by
 obtain⟨d,rfl⟩:=Nat.exists_eq_add_of_le (show k+1<=n by omega);refine ac3 ?_ d;show nx (many f k) (fun xs=>nx f fun x=>ok (xs++[x])) l=_;rw[nx,h];show nx f (fun x=>ok (xs++[x])) r=_;rw[nx,hx]
end R
def pP{α:Type}(f:List UInt8->R.fT α)(n:Nat)(l1:List UInt8)(ju:Bool)(j:Nat)(xs:List α)(r:List UInt8)(b:Bool):Prop:=
 (b=true->ju=true/\R.many f j l1=some (xs,r))/\(b=false->ju=false\/R.many f n l1=none)
theorem pP.start{α:Type}(f:List UInt8->R.fT α)(n:Nat)(l1:List UInt8)(ju:Bool):pP f n l1 ju 0 [] l1 ju:=⟨fun h=>⟨h,rfl⟩,fun h=>.inl h⟩
theorem pP.zm{α:Type}{f:List UInt8->R.fT α}{n j:Nat}{l1 r:List UInt8}{ju:Bool}{xs:List α}(h:pP f n l1 ju j xs r true):ju=true/\R.many f j l1=some (xs,r):=h.1 rfl
theorem pP.no{α:Type}{f:List UInt8->R.fT α}{n j:Nat}{l1 r:List UInt8}{ju:Bool}{xs:List α}(h:pP f n l1 ju j xs r false):ju=false\/R.many f n l1=none:=h.2 rfl
theorem pP.go{α:Type}{f:List UInt8->R.fT α}{n j:Nat}{l1 r r':List UInt8}{ju:Bool}{xs:List α}{x:α}(h:pP f n l1 ju j xs r true)(hx:f r=some (x,r')):pP f n l1 ju (j+1) (xs++[x]) r' true:=
 ⟨fun _=>⟨h.zm.1,R.aqu h.zm.2 hx⟩,fun h=>aN h (by decide)⟩
theorem pP.CX{α:Type}{f:List UInt8->R.fT α}{n j:Nat}{l1 r r':List UInt8}{ju:Bool}{xs ys:List α}(h:pP f n l1 ju j xs r true)(hx:f r=none)(hj:j<n):pP f n l1 ju (j+1) ys r' false:=
 ⟨fun h=>aN h (by decide),fun _=>.inr (R.aqv h.zm.2 hx hj)⟩
namespace R
theorem OA{l:List UInt8}(h:tk 1 false l=none):EB l=none:=by unfold EB;rw[nx,h]
theorem ac4{l r:List UInt8}{n:Int}(h:tk 1 false l=some (n,r))(h':many fF n.toNat r=none):EB l=none:=by unfold EB;rw[nx,h];show nx _ _ r=_;rw[nx,h']
theorem aqw{l r r':List UInt8}{n:Int}{ts:List M.Tn}(h:tk 1 false l=some (n,r))(h':many fF n.toNat r=some (ts,r')):EB l=AX ts r':=by unfold EB;rw[nx,h];show nx _ _ r=_;rw[nx,h']
theorem OB{l:List UInt8}{ts:List M.Tn}(h:tk 1 false l=none):AX ts l=none:=by unfold AX;rw[nx,h]
theorem ac5{l r:List UInt8}{n:Int}{ts:List M.Tn}(h:tk 1 false l=some (n,r))(h':many op n.toNat r=none):AX ts l=none:=by unfold AX;rw[nx,h];show nx _ _ r=_;rw[nx,h']
theorem aqx{l r r':List UInt8}{n:Int}{ts:List M.Tn}{os:List Op}(h:tk 1 false l=some (n,r))(h':many op n.toNat r=some (os,r')):AX ts l=AW ts os r':=by unfold AX;rw[nx,h];show nx _ _ r=_;rw[nx,h']
theorem aqy{l:List UInt8}{ts:List M.Tn}{os:List Op}(h:tk 1 false l=none):AW ts os l=none:=by unfold AW;rw[nx,h]
theorem aqz{l r:List UInt8}{n:Int}{ts:List M.Tn}{os:List Op}(h:tk 1 false l=some (n,r))(h':list r 1 false n.toNat=none):AW ts os l=none:=by unfold AW;rw[nx,h];show nx _ _ r=_;rw[nx,<-Ew,h']
theorem aqA{l r r':List UInt8}{n:Int}{ts:List M.Tn}{os:List Op}{us:List Int}(h:tk 1 false l=some (n,r))(h':list r 1 false n.toNat=some (us,r')):AW ts os l=some (⟨ts,os,us⟩,r'):=by unfold AW;rw[nx,h];show nx _ _ r=_;rw[nx,<-Ew,h'];rfl
end R
def ac6(wr:World)(B:Nat)(L:Nat)(b:Bool)(ts:List M.Tn)(r:List UInt8):Prop:=
 b=true->r.length<=L/\∃av cv,aj wr B 137 #[.slice av ts.length cv,.slice none 0 0,.slice none 0 0]/\oZ wr (B+1) (.slice av ts.length cv) ts
def ac7(wr:World)(B:Nat)(L:Nat)(b:Bool)(ts:List M.Tn)(a1:Option Addr)(c1:Nat)(os:List R.Op)(r:List UInt8):Prop:=
 b=true->r.length<=L/\∃av cv,aj wr B 137 #[.slice a1 ts.length c1,.slice av os.length cv,.slice none 0 0]/\oZ wr (B+1) (.slice a1 ts.length c1) ts/\pa wr (B+1) (.slice av os.length cv) os
theorem ac8(l:List UInt8):((S9 l).extract 0 4).toList=l.take 4:=by
 rw[Lib.toList_data,Lib.extract_data];simp[S9]
theorem aqB(l:List UInt8):(S9 l).extract 4 l.length=S9 (l.drop 4):=by
 rw[acy,Bo (by simp)]
theorem aqC(l:List UInt8)(w:World)(hl:l.length<=4096) :
  Calls prog 71 #[.string (S9 l)] w fun e w'=>w.grownBy w' none /\
   ((Hid (R.ff l=none)/\e=.returned (.tuple #[.pointer (some ⟨w.heap.size,0,none⟩),.bool false])) \/
    ∃g,Hid (R.ff l=some g)/\e=.returned (.tuple #[.pointer (some ⟨w.heap.size,0,none⟩),.bool true])/\lB w' w.heap.size g):=by
 have Kk:=FN l;have B0:=ae (aj.bB w 137 #[.slice none 0 0,.slice none 0 0,.slice none 0 0]);have G0:=ae (aQ w (.cells #[.slice none 0 0,.slice none 0 0,.slice none 0 0] 137) none);by_cases h4:l.length<4
 ·have HN:=ae (R.ac2 (.inl h4))
  go_enter func71,ntmps71;go_wp2
  go_ret2
  exact⟨G0.out,.inl (by first|exact⟨HN.out,rfl⟩|rfl)⟩
 ·have rm:4<=l.length:=by omega
  cases hh:(!((S9 l).extract 0 4).toList==[116,102,108,49]) with
  | true=>
   have HN:=ae (R.ac2 (l:=l) (.inr (by rw[<-ac8];intro e;rw[e] at hh;exact aN hh (by decide))));go_enter func71,ntmps71;go_wp2
   go_ret2
   exact⟨G0.out,.inl (by first|exact⟨HN.out,rfl⟩|rfl)⟩
  | false=>
   have HR:=ae (R.aqt (l:=l) (by
    intro h;rcases h with h|h
    ·omega
    ·rw[<-ac8] at h
     simp at hh;exact h hh))
   have Hd:=ae (aqB l);have yD:(l.drop 4).length<=l.length:=by simp
   go_enter func71,ntmps71;go_wp2_with fail;rw[Hd.out];generalize l.drop 4=l0 at *;refine(xN l0 1 false _ (by decide) (by decide) (by omega)).mono ?_;rintro e w1⟨rfl,g1⟩;have xU:=R.Ey l0 false;have fO:=(vY l0 1 false).1;obtain⟨⟨n1,r1,ju⟩,uI⟩:∃p,Hid (R.take l0 1 false=p):=⟨_,rfl⟩;rw[uI.out] at xU fO ⊢;have bn:0<=n1/\n1<=255:=xU;have yO:Hid (r1.length<=l.length):=by have:r1.length<=l0.length:=fO;unfold Hid;omega
   obtain⟨n,rfl⟩:=fR bn.1;have ac9:(n:Int)<=255:=bn.2;have B1:=ae (aj.kept B0.out g1 (by simp));have G1:=ae (aC G0.out g1);clear xU fO bn g1 B0 G0 hh Hd;obtain⟨i0,hi,cQ,cR,cZ⟩:=info_parts Tryz.aqr;go_wp2;go_loopw[0,6,7] (fun s Km i wr=>∃(j:Nat) (ts:List M.Tn) (r:List UInt8) (b:Bool),Hid (j<=n)/\i=.int .i64 j/\s=.string (S9 r)/\Km=.bool b/\Hid (ts.length<=j)/\Hid (pP R.fF n r1 ju j ts r b)/\Hid (ac6 wr w.heap.size l.length b ts r)/\w.grownBy wr none) (fun _ _ i _=>n-(intOf i).toNat)
   case atStart=>exact⟨0,[],r1,ju,bK _,rfl,rfl,rfl,bj _,pP.start _ _ _ _,(fun _=>⟨yO.out,none,0,B1.out,oZ.nil _ _⟩),G1.out⟩
   case round=>
    obtain⟨j,ts,r,b,Hj,rfl,rfl,rfl,tC,eX,AY,bO⟩:=hrel;by_cases aK:j<n
    ·have dU:=ae aK
     cases b with
     | true=>
      obtain⟨gG,av,cv,hB,hT⟩:=AY.out rfl;have HB:=ae hB;have HT:=ae hT;have gN:w.heap.size<wr.heap.size:=hB.lt;clear hB hT AY;go_wp2_with fail;refine(ap0 r wr (by omega)).mono ?_;rintro e w8⟨g8,zn⟩;have jF:∃(k h v c z:Int) (d:List Int) (ao:Option Addr) (m cp:Nat) (r':List UInt8) (bb:Bool),e=.returned (.tuple #[.agg (t6 k h v c z (.slice ao m cp)),.string (S9 r'),.bool bb])/\Hid (pP R.fF n r1 ju (j+1) (ts++[⟨k,h,v,c,z,d⟩]) r' bb)/\Hid (bb=true->r'.length<=l.length/\m=d.length/\aZ w8 wr.heap.size (.slice ao d.length cp) d):=by
       rcases zn with⟨k,h,v,c,z,ao,m,cp,r',oO,rfl⟩|⟨t,ao,cp,r',ht,rP,-,rfl,hI⟩
       ·exact⟨k,h,v,c,z,[],ao,m,cp,r',false,rfl,eX.out.CX oO.out dU.out,fun h=>aN h (by decide)⟩
       ·exact⟨t.af,t.h,t.w,t.c,t.zero,t.data,ao,t.data.length,cp,r',true,rfl,eX.out.go ht.out,fun _=>⟨by omega,rfl,hI⟩⟩
      obtain⟨k,h,v,c,z,d,ao,m,cp,r',bb,rfl,lS,sZ⟩:=jF;clear zn;have js:=ae (HB.out.kept g8 (by simp));have Au:=ae (HT.out.Z g8);have fJ:=ae (aC bO g8);have TC:wr.heap.size<=w8.heap.size:=g8.size;clear g8 bO HB HT;obtain⟨W,HW⟩:∃W,Hid ((w8.alloc (.cells #[.int .i64 k,.int .i64 h,.int .i64 v,.int .i64 c,.int .i64 z,.slice ao m cp] 142))=W):=⟨_,rfl⟩;have gW:w8.grownBy W none:=by rw[<-HW.out];exact aQ _ _ _
      have FL:W.heap.size=w8.heap.size+1:=by rw[<-HW.out];exact World.size_alloc _ _
      have BT:aj W w8.heap.size 142 #[.int .i64 k,.int .i64 h,.int .i64 v,.int .i64 c,.int .i64 z,.slice ao m cp]:=by rw[<-HW.out];exact aj.bB _ _ _
      obtain⟨t0,t1,t2,t3,t4,t5⟩:=mD BT;have AZ:=ae (js.out.kept gW (by simp));obtain⟨q0,q1,q2⟩:W.cell? ⟨w.heap.size,0,none⟩=some (.slice av ts.length cv)/\True/\True:=⟨AZ.out.cell 0,trivial,trivial⟩;have Ko:=ae (Au.out.Z gW);have um:=ae (aC fJ.out gW);have y0:=cell_regrown q0;have y1:=cell_regrown t0;have y2:=cell_regrown t1;have y3:=cell_regrown t2;have y4:=cell_regrown t3;have y5:=cell_regrown t4;have y6:=cell_regrown t5;have F7:=ae gW;have HWs:=ae FL;clear gW BT t0 t1 t2 t3 t4 t5 q0 q1 q2 js Au fJ FL;go_wp2_with fail;rw[HW.out];refine CC 5 6 (fun w'=>∃p:Regrown,w'=Go.Sort.grow (redrawn W p.d) p.os) (W.drew.alloc (.cells #[.int .i64 k,.int .i64 h,.int .i64 v,.int .i64 c,.int .i64 z,.slice ao m cp] 142)) (by kernel_rfl) (by kernel_rfl) (by decide) ⟨⟨W.drawn+1,#[]⟩,by rw[Go.Sort.grow_empty];rfl⟩ ⟨⟨W.drawn+1,#[.cells #[.int .i64 k,.int .i64 h,.int .i64 v,.int .i64 c,.int .i64 z,.slice ao m cp] 142]⟩,rfl⟩ ?_;simp only[List.take_succ_cons,List.take_zero,List.drop_succ_cons,List.drop_zero]
      repeat (refine yZ (by decide) (fun K hK=>?_);go_simp;refine hK _ ?_;clear hK K)
      refine CD (.slice (some ⟨W.heap.size,0,none⟩) 1 1) ?hw ?hr ?_
      case hw=>rfl
      case hr=>go_simp
      refine CE ?_;clear y0 y1 y2 y3 y4 y5 y6;obtain⟨ps,p1,p2,p3⟩:=Ko.out;have P2:=ae (eW p2 (gH W none));have jm:w.heap.size+1<=W.heap.size:=by have:=AZ.out.lt;omega
      have TD:ts.length<=255:=by have:=tC.out;have:=dU.out;omega
      have mq:=ae p2;clear p2;go_wp2_with (at_builtin;refine ng _ rfl _ _ 134 rfl (w.heap.size+1) 142 i0 (.agg #[.int .i64 0,.int .i64 0,.int .i64 0,.int .i64 0,.int .i64 0,.slice none 0 0]) 6 64 underlying134 hi cQ cR cZ rfl (by decide) _ _ _ rfl (lP P2.out _) ⟨W.heap.size,0,none⟩ 1 1 [.int .i64 k,.int .i64 h,.int .i64 v,.int .i64 c,.int .i64 z,.slice ao m cp] rfl rfl ?c1 ?c2 ?c3 ?c4 ?c5 ?_)
      case c1=>exact kb W.drew 142 #[.int .i64 k,.int .i64 h,.int .i64 v,.int .i64 c,.int .i64 z,.slice ao m cp]
      case c2=>intro u hu;simp at hu;rcases hu with rfl|rfl|rfl|rfl|rfl|rfl<;>rfl
      case c3=>unfold maxLen;omega
      case c4=>omega
      case c5=>simp;omega
      intro v' w9 dC cV _;have bC:W.grownBy w9 (Value.slice av ts.length cv).ownBlock:=aC (aC (aQ W _ _) (gH _ _)) cV;have dR:=mE mq.out;have fx:=AZ.out.kept bC (by intro e;have:=dR _ e.symm;omega);have e4:w9.cell? ⟨w.heap.size,0,none⟩=some (.slice av ts.length cv):=fx.cell 0;have f4:=fx.free 0;have hl9:=fx.lt;have jx:=ae (dF (mA um.out bC (fun g hg=>by have:=dR g hg;omega)) (bD w9 w.heap.size 0 v') (bj _));obtain⟨eP,eQ,hv⟩:=gY dC;have Kq:Hid (ac6 (w9.setCell ⟨w.heap.size,0,none⟩ v') w.heap.size l.length bb (ts++[⟨k,h,v,c,z,d⟩]) r'):=fun hb=>by
       obtain⟨rP,hm,hI⟩:=sZ.out hb;subst hm;have hT9:oZ w9 (w.heap.size+1) v' (ts++[⟨k,h,v,c,z,d⟩]):=oZ.pk p1 mq.out p3 ((hI.Z F7.out).mono (by omega)) bC dC;rw[hv] at hT9 ⊢;refine⟨rP,eP,eQ,?_,?_⟩
       ·have e:=fx.set 0 (.slice eP (ts.length+1) eQ)
        simpa using e
       ·have e:=hT9.kept (bD w9 w.heap.size 0 (.slice eP (ts.length+1) eQ)) (Nat.lt_succ_self _)
        simpa using e
      have TE:Hid ((ts++[(⟨k,h,v,c,z,d⟩:M.Tn)]).length<=j+1):=by have:=tC.out;unfold Hid;simp;omega
      have By:=dU.out;rw[hv] at jx Kq ⊢;clear hv dC cV bC dR mq P2 p1 p3 fx AZ Ko um sZ F7 HWs jm TD gG gN TC;go_wp2;go_roundw
      case rel=>exact⟨j+1,_,r',bb,(by have:=dU.out;unfold Hid;omega),by go_num,rfl,rfl,TE.out,lS.out,Kq.out,jx.out⟩
      case measure=>have:=dU.out;simp[intOf];omega
     | false=>
      have HN:=ae (show R.ff l=none by
       rw[HR.out];rcases eX.out.no with h|h
       ·subst h;rw[R.OA (R.qo uI.out)];rfl
       ·cases h5:ju with
        | false=>rw[h5] at uI;rw[R.OA (R.qo uI.out)];rfl
        | true=>rw[h5] at uI;rw[R.ac4 (R.rY uI.out) h];rfl)
      have cT:=ae bO;clear bO;go_wp2
      go_ret2
      exact⟨cT.out,.inl (by first|exact⟨HN.out,rfl⟩|rfl)⟩
    ·have qX:j=n:=by have:=Hj.out;omega
     subst qX
     cases b with
     | false=>
      have HN:=ae (show R.ff l=none by
       rw[HR.out];rcases eX.out.no with h|h
       ·subst h;rw[R.OA (R.qo uI.out)];rfl
       ·cases h5:ju with
        | false=>rw[h5] at uI;rw[R.OA (R.qo uI.out)];rfl
        | true=>rw[h5] at uI;rw[R.ac4 (R.rY uI.out) h];rfl)
      have cT:=ae bO;clear bO;go_wp2
      go_ret2
      exact⟨cT.out,.inl (by first|exact⟨HN.out,rfl⟩|rfl)⟩
     | true=>
      obtain⟨gG,a1,c1,hB,hT⟩:=AY.out rfl;obtain⟨h5,Cj⟩:=eX.out.zm;subst h5;have CG:=ae (show R.ff l=R.BX (R.AX ts r) by rw[HR.out,R.aqw (R.rY uI.out) Cj]);have HB:=ae hB;have HT:=ae hT;have cT:=ae bO;have hts:ts.length<=255:=by have:=tC.out;omega
      clear hB hT AY bO eX Cj HR uI hi cQ cR cZ tC Hj;go_wp2_with fail;refine(xN r 1 false wr (by decide) (by decide) (by omega)).mono ?_;rintro e w2⟨rfl,g2⟩;have xU:=R.Ey r false;have fO:=(vY r 1 false).1;obtain⟨⟨n2,r2,vP⟩,uJ⟩:∃p,Hid (R.take r 1 false=p):=⟨_,rfl⟩;rw[uJ.out] at xU fO ⊢;have bn:0<=n2/\n2<=255:=xU;have yP:Hid (r2.length<=l.length):=by have:r2.length<=r.length:=fO;unfold Hid;omega
      obtain⟨n,rfl⟩:=fR bn.1;have ac9:(n:Int)<=255:=bn.2;have iV:=ae (HB.out.kept g2 (by simp));have rV:=ae (HT.out.Z g2);have dZ:=ae (aC cT.out g2);clear xU fO bn g2 HB HT cT;obtain⟨i0,hi,cQ,cR,cZ⟩:=info_parts Tryz.aqs;go_wp2;go_loopw[0,6,12] (fun s Km i wr=>∃(j:Nat) (os:List R.Op) (r:List UInt8) (b:Bool),Hid (j<=n)/\i=.int .i64 j/\s=.string (S9 r)/\Km=.bool b/\Hid (os.length<=j)/\Hid (pP R.op n r2 vP j os r b)/\Hid (ac7 wr w.heap.size l.length b ts a1 c1 os r)/\w.grownBy wr none) (fun _ _ i _=>n-(intOf i).toNat)
      case atStart=>exact⟨0,[],r2,vP,bK _,rfl,rfl,rfl,bj _,pP.start _ _ _ _,(fun _=>⟨yP.out,none,0,iV.out,rV.out,pa.nil _ _⟩),dZ.out⟩
      case round=>
       obtain⟨j,os,r,b,Hj,rfl,rfl,rfl,tC,eX,AY,bO⟩:=hrel;by_cases aK:j<n
       ·have dU:=ae aK
        cases b with
        | true=>
         obtain⟨gG,av,cv,hB,hT,hO⟩:=AY.out rfl;have HB:=ae hB;have HT:=ae hT;have HO:=ae hO;have gN:w.heap.size<wr.heap.size:=hB.lt;clear hB hT hO AY;go_wp2_with fail;refine(aqn r wr (by omega)).mono ?_;rintro e w8⟨g8,zn⟩;have jF:∃(k:Int) (is:List Int) (ao:Option Addr) (m cp:Nat) (ot:Int) (ns:List Int) (dO:Option Addr) (m2 qq:Nat) (r':List UInt8) (bb:Bool),e=.returned (.tuple #[.agg (o4 k (.slice ao m cp) ot (.slice dO m2 qq)),.string (S9 r'),.bool bb])/\Hid (pP R.op n r2 vP (j+1) (os++[⟨k,is,ot,ns⟩]) r' bb)/\Hid (bb=true->r'.length<=l.length/\m=is.length/\m2=ns.length/\aZ w8 wr.heap.size (.slice ao is.length cp) is/\aZ w8 wr.heap.size (.slice dO ns.length qq) ns):=by
          rcases zn with⟨k,ao,m,cp,ot,dO,m2,qq,r',oO,rfl⟩|⟨o,ao,cp,dO,qq,r',ht,rP,rfl,hI,hN⟩
          ·exact⟨k,[],ao,m,cp,ot,[],dO,m2,qq,r',false,rfl,eX.out.CX oO.out dU.out,fun h=>aN h (by decide)⟩
          ·exact⟨o.af,o.ins,ao,o.ins.length,cp,o.out,o.cO,dO,o.cO.length,qq,r',true,rfl,eX.out.go ht.out,fun _=>⟨by omega,rfl,rfl,hI,hN⟩⟩
         obtain⟨k,is,ao,m,cp,ot,ns,dO,m2,qq,r',bb,rfl,lS,sZ⟩:=jF;clear zn;have js:=ae (HB.out.kept g8 (by simp));have Au:=ae (HT.out.Z g8);have HO8:=ae (HO.out.Z g8);have fJ:=ae (aC bO g8);have TC:wr.heap.size<=w8.heap.size:=g8.size;clear g8 bO HB HT HO;obtain⟨W,HW⟩:∃W,Hid ((w8.alloc (.cells #[.int .i64 k,.slice ao m cp,.int .i64 ot,.slice dO m2 qq] 172))=W):=⟨_,rfl⟩;have gW:w8.grownBy W none:=by rw[<-HW.out];exact aQ _ _ _
         have BT:aj W w8.heap.size 172 #[.int .i64 k,.slice ao m cp,.int .i64 ot,.slice dO m2 qq]:=by rw[<-HW.out];exact aj.bB _ _ _
         obtain⟨t0,t1,t2,t3⟩:=wu BT;have AZ:=ae (js.out.kept gW (by simp));have q0:W.cell? ⟨w.heap.size,1,none⟩=some (.slice av os.length cv):=AZ.out.cell 1;have Ko:=ae (Au.out.Z gW);have HOW:=ae (HO8.out.Z gW);have um:=ae (aC fJ.out gW);have y0:=cell_regrown q0;have y1:=cell_regrown t0;have y2:=cell_regrown t1;have y3:=cell_regrown t2;have y4:=cell_regrown t3;have F7:=ae gW;clear gW BT t0 t1 t2 t3 q0 js Au HO8 fJ;go_wp2_with fail;rw[HW.out];refine CC 5 6 (fun w'=>∃p:Regrown,w'=Go.Sort.grow (redrawn W p.d) p.os) (W.drew.alloc (.cells #[.int .i64 k,.slice ao m cp,.int .i64 ot,.slice dO m2 qq] 172)) (by kernel_rfl) (by kernel_rfl) (by decide) ⟨⟨W.drawn+1,#[]⟩,by rw[Go.Sort.grow_empty];rfl⟩ ⟨⟨W.drawn+1,#[.cells #[.int .i64 k,.slice ao m cp,.int .i64 ot,.slice dO m2 qq] 172]⟩,rfl⟩ ?_;simp only[List.take_succ_cons,List.take_zero,List.drop_succ_cons,List.drop_zero]
         repeat (refine yZ (by decide) (fun K hK=>?_);go_simp;refine hK _ ?_;clear hK K)
         refine CD (.slice (some ⟨W.heap.size,0,none⟩) 1 1) ?hw ?hr ?_
         case hw=>rfl
         case hr=>go_simp
         refine CE ?_;clear y0 y1 y2 y3 y4;obtain⟨ps,p1,p2,p3⟩:=HOW.out;have P2:=ae (eW p2 (gH W none));have jm:w.heap.size+1<=W.heap.size:=by have:=AZ.out.lt;omega
         have TD:os.length<=255:=by have:=tC.out;have:=dU.out;omega
         have mq:=ae p2;clear p2;go_wp2_with (at_builtin;refine ng _ rfl _ _ 135 rfl (w.heap.size+1) 172 i0 (.agg #[.int .i64 0,.slice none 0 0,.int .i64 0,.slice none 0 0]) 4 64 underlying135 hi cQ cR cZ rfl (by decide) _ _ _ rfl (lP P2.out _) ⟨W.heap.size,0,none⟩ 1 1 [.int .i64 k,.slice ao m cp,.int .i64 ot,.slice dO m2 qq] rfl rfl ?k1 ?k2 ?k3 ?k4 ?k5 ?_)
         case k2=>exact⟨rfl,rfl,rfl,rfl⟩
         case k3=>unfold maxLen;omega
         case k4=>omega
         case k5=>omega
         intro v' w9 dC cV _;have bC:W.grownBy w9 (Value.slice av os.length cv).ownBlock:=aC (aC (aQ W _ _) (gH _ _)) cV;have dR:=mE mq.out;have fx:=AZ.out.kept bC (by intro e;have:=dR _ e.symm;omega);have e4:w9.cell? ⟨w.heap.size,1,none⟩=some (.slice av os.length cv):=fx.cell 1;have f4:=fx.free 1;have hl9:=fx.lt;have HT9:Hid (oZ w9 (w.heap.size+1) (.slice a1 ts.length c1) ts):=by
          obtain⟨us,u1,u2,u3⟩:=Ko.out;exact⟨us,u1,nV u2 mq.out (by decide) bC,fun p hp=>nV (u3 p hp) mq.out (by decide) bC⟩
         have jx:=ae (dF (mA um.out bC (fun g hg=>by have:=dR g hg;omega)) (bD w9 w.heap.size 1 v') (bj _));obtain⟨eP,eQ,hv⟩:=gY dC;have Kq:Hid (ac7 (w9.setCell ⟨w.heap.size,1,none⟩ v') w.heap.size l.length bb ts a1 c1 (os++[⟨k,is,ot,ns⟩]) r'):=fun hb=>by
          obtain⟨rP,hm,Jd,hI,hN⟩:=sZ.out hb;subst hm Jd;have hO9:pa w9 (w.heap.size+1) v' (os++[⟨k,is,ot,ns⟩]):=pa.pk p1 mq.out p3 ((hI.Z F7.out).mono (by omega)) ((hN.Z F7.out).mono (by omega)) bC dC;rw[hv] at hO9 ⊢;refine⟨rP,eP,eQ,?_,HT9.out.kept (bD w9 w.heap.size 1 (.slice eP (os.length+1) eQ)) (Nat.lt_succ_self _),?_⟩
          ·have e:=fx.set 1 (.slice eP (os.length+1) eQ)
           simpa using e
          ·have e:=hO9.kept (bD w9 w.heap.size 1 (.slice eP (os.length+1) eQ)) (Nat.lt_succ_self _)
           simpa using e
         have TE:Hid ((os++[(⟨k,is,ot,ns⟩:R.Op)]).length<=j+1):=by have:=tC.out;unfold Hid;simp;omega
         have By:=dU.out;rw[hv] at jx Kq ⊢;clear hv dC cV bC dR mq P2 p1 p3 fx AZ Ko HOW um sZ F7 jm TD gG gN TC HT9;go_wp2;go_roundw
         case rel=>exact⟨j+1,_,r',bb,(by have:=dU.out;unfold Hid;omega),by go_num,rfl,rfl,TE.out,lS.out,Kq.out,jx.out⟩
         case measure=>have:=dU.out;simp[intOf];omega
        | false=>
         have HN:=ae (show R.ff l=none by
          rw[CG.out];rcases eX.out.no with h|h
          ·subst h;rw[R.OB (R.qo uJ.out)];rfl
          ·cases h5:vP with
           | false=>rw[h5] at uJ;rw[R.OB (R.qo uJ.out)];rfl
           | true=>rw[h5] at uJ;rw[R.ac5 (R.rY uJ.out) h];rfl)
         have cT:=ae bO;clear bO;go_wp2
         go_ret2
         exact⟨cT.out,.inl (by first|exact⟨HN.out,rfl⟩|rfl)⟩
       ·have qX:j=n:=by have:=Hj.out;omega
        subst qX
        cases b with
        | false=>
         have HN:=ae (show R.ff l=none by
          rw[CG.out];rcases eX.out.no with h|h
          ·subst h;rw[R.OB (R.qo uJ.out)];rfl
          ·cases h5:vP with
           | false=>rw[h5] at uJ;rw[R.OB (R.qo uJ.out)];rfl
           | true=>rw[h5] at uJ;rw[R.ac5 (R.rY uJ.out) h];rfl)
         have cT:=ae bO;clear bO;go_wp2
         go_ret2
         exact⟨cT.out,.inl (by first|exact⟨HN.out,rfl⟩|rfl)⟩
        | true=>
         obtain⟨gG,a2,c2,hB,hT,hO⟩:=AY.out rfl;obtain⟨h5,Cj⟩:=eX.out.zm;subst h5;have CH:=ae (show R.ff l=R.BX (R.AW ts os r) by rw[CG.out,R.aqx (R.rY uJ.out) Cj]);have HB:=ae hB;have HT:=ae hT;have HO:=ae hO;have cT:=ae bO;clear hB hT hO AY bO eX Cj CG uJ hi cQ cR cZ tC Hj;go_wp2_with fail;refine(xN r 1 false wr (by decide) (by decide) (by omega)).mono ?_;rintro e w3⟨rfl,g3⟩;have xU:=R.Ey r false;have fO:=(vY r 1 false).1;obtain⟨⟨n3,r3,ok3⟩,TF⟩:∃p,Hid (R.take r 1 false=p):=⟨_,rfl⟩;rw[TF.out] at xU fO ⊢;have bn:0<=n3/\n3<=255:=xU;have JG:Hid (r3.length<=l.length):=by have:r3.length<=r.length:=fO;unfold Hid;omega
         obtain⟨n,rfl⟩:=fR bn.1;have ac9:(n:Int)<=255:=bn.2;have fZ:=ae (HB.out.kept g3 (by simp));have qU:=ae (HT.out.Z g3);have AQ:=ae (HO.out.Z g3);have fW:=ae (aC cT.out g3);clear xU fO bn g3 HB HT HO cT
         cases ok3 with
         | false=>
          have HN:=ae (show R.ff l=none by rw[CH.out,R.aqy (R.qo TF.out)];rfl);go_wp2
          go_ret2
          exact⟨fW.out,.inl (by first|exact⟨HN.out,rfl⟩|rfl)⟩
         | true=>
          have xV:=ae (R.rY TF.out);go_wp2_with fail;refine(Kb r3 n 1 false w3 (by decide) (by decide) (by have:=JG.out;omega) (by omega)).mono ?_;rintro e w4⟨g4,⟨r4,tA,CS,rfl⟩|⟨a4,c4,us,r4,oV,rfl,lO⟩⟩
          ·have HN:=ae (show R.ff l=none by rw[CH.out,R.aqz xV.out (by rw[ey];exact tA)];rfl)
           have ku:=fZ.out.kept g4 (by simp);have e4:w4.cell? ⟨w.heap.size,2,none⟩=some (.slice none 0 0):=ku.cell 2;have f4:=ku.free 2;have vG:=ku.lt;have fB:=ae (dF (aC fW.out g4) (bD w4 w.heap.size 2 (.slice none 0 0)) (bj _));clear g4 tA ku fZ qU AQ CH xV;go_wp2
           go_ret2
           exact⟨fB.out,.inl (by first|exact⟨HN.out,rfl⟩|rfl)⟩
          ·have ku:=fZ.out.kept g4 (by simp)
           have e4:w4.cell? ⟨w.heap.size,2,none⟩=some (.slice none 0 0):=ku.cell 2;have f4:=ku.free 2;have vG:=ku.lt;have IQ:w.heap.size<w3.heap.size:=fZ.out.lt;have gs:=bD w4 w.heap.size 2 (.slice a4 us.length c4);have fB:=ae (dF (aC fW.out g4) gs (bj _));have OC:=ae (show R.ff l=R.BX (some (⟨ts,os,us⟩,r4)) by rw[CH.out,R.aqA xV.out (by rw[ey];exact oV.out)]);have zo:Hid (lB (w4.setCell ⟨w.heap.size,2,none⟩ (.slice a4 us.length c4)) w.heap.size ⟨ts,os,us⟩):=
            ⟨a1,c1,a2,c2,a4,c4,ku.set 2 (.slice a4 us.length c4),(qU.out.Z g4).kept gs (Nat.lt_succ_self _),(AQ.out.Z g4).kept gs (Nat.lt_succ_self _),(lO.kept gs IQ).mono (by omega)⟩
           clear g4 ku fZ qU AQ CH xV gs lO oV;have rm:=FN r4
           cases r4 with
           | nil=>
            have HN:=ae (show R.ff l=some ⟨ts,os,us⟩ from OC.out);have aqG:(S9 ([]:List UInt8)).toList.isEmpty=true:=by rw[Lib.toList_data];rfl
            clear OC;go_wp2
            go_ret2
            exact⟨fB.out,.inr ⟨⟨ts,os,us⟩,HN.out,rfl,zo.out⟩⟩
           | cons x xs=>
            have HN:=ae (show R.ff l=none from OC.out);have aqG:(S9 (x::xs)).toList.isEmpty=false:=by rw[Lib.toList_data];rfl
            clear OC;go_wp2
            go_ret2
            exact⟨fB.out,.inl (by first|exact⟨HN.out,rfl⟩|rfl)⟩
structure WfR(o:R.Op):Prop where
 af:R.bT o.af≠none
 OD:0<=o.out
 aqH:o.out<=255
 ins:∀x∈o.ins,0<=x/\x<=255
 inl:(o.ins.length:Int)=R.cY o.af
 cO:∀x∈o.cO,-2147483648<=x/\x<=2147483647
 nul:o.cO.length=(R.iz o.af).length
 byt:∀(k:Nat) x,(R.iz o.af)[k]?=some (Char.ofNat 117)->o.cO[k]?=some x->0<=x/\x<=255
structure EC(g:R.bX):Prop where
 nt:g.ts.length<=255
 no:g.ag.length<=255
 nu:g.aJ.length<=255
 ts:∀t∈g.ts,dW t
 ds:∀t∈g.ts,∀x∈t.data,-2147483648<=x/\x<=2147483647
 dl:∀t∈g.ts,t.data.length<=16777216
 os:∀o∈g.ag,WfR o
 us:∀u∈g.aJ,0<=u/\u<=255
theorem F8(a o:Nat)(t:M.Tn)(w:World)(wt:dW t)(d1:w.cell? ⟨a,o+1,none⟩=some (.int .i64 t.h))(d2:w.cell? ⟨a,o+2,none⟩=some (.int .i64 t.w))(d3:w.cell? ⟨a,o+3,none⟩=some (.int .i64 t.c)) :
  Calls prog 117 #[.pointer (some ⟨a,o,none⟩)] w fun e w'=>e=.returned (.int .i64 (M.cellsOf t))/\∃n,w'=w.drewN n:=by
 obtain⟨m0,m1,n0,n1⟩:=wT wt.h0 wt.h1 wt.w0 wt.w1 wt.c0 wt.c1;have He:=ae (show M.cellsOf t=t.h*t.w*t.c from rfl);clear wt;generalize t.h=h at *;generalize t.w=v at *;generalize t.c=c at *;have q1:IntKind.i64.wrap (h*v)=h*v:=by rw[cS];omega
 have q2:IntKind.i64.wrap (h*v*c)=h*v*c:=by rw[cS];omega
 go_enter func117,ntmps117;go_wp2;go_quiet (fail);go_wp2;go_ret;exact⟨cE He.out.symm,nq,rfl⟩
theorem xW(a o:Nat)(t:M.Tn)(h v c:Int)(w:World)(d1:w.cell? ⟨a,o+1,none⟩=some (.int .i64 t.h))(d2:w.cell? ⟨a,o+2,none⟩=some (.int .i64 t.w))(d3:w.cell? ⟨a,o+3,none⟩=some (.int .i64 t.c)) :
  Calls prog 147 #[.pointer (some ⟨a,o,none⟩),.int .i64 h,.int .i64 v,.int .i64 c] w fun e w'=>e=.returned (.bool (R.iR t h v c))/\w'=w:=by
 have He:=ae (show R.iR t h v c=((t.h==h&&t.w==v)&&t.c==c) from rfl);generalize t.h=th at *;generalize t.w=tw at *;generalize t.c=tc at *
 cases k1:(th==h) with
 | false=>
  go_enter func147,ntmps147;go_wp2;go_ret;exact⟨bq (by rw[He.out,k1];rfl),rfl⟩
 | true=>
  cases k2:(tw==v) with
  | false=>
   go_enter func147,ntmps147;go_wp2;go_ret;exact⟨bq (by rw[He.out,k1,k2];rfl),rfl⟩
  | true=>
   go_enter func147,ntmps147;go_wp2;go_ret;exact⟨bq (by rw[He.out,k1,k2];rfl),rfl⟩
namespace R
theorem aqJ{g:bX}{k:Nat}{t:M.Tn}(ht:g.ts[k]?=some t)(h:M.cellsOf t=0\/512<M.cellsOf t):uE g=false:=by
 have h2:g.ts.all (fun t=>!(decide (M.cellsOf t=0)||decide (512<M.cellsOf t)))=false:=by
  rw[List.all_eq_false];refine⟨t,bV ht,?_⟩;rcases h with h|h<;>simp[h]
 unfold uE;rw[h2]
 rfl
theorem aqK{g:bX}{sum:Int}(h:Bx g.ts g.ts.length sum):uE g=(decide (g.ts.length<=24)&&decide (g.ag.length<=16)&&decide (sum<=2048)&&decide (0<g.aJ.length)):=by
 have ha:=h.all;have he:=h.eq;rw[jo] at ha he;unfold uE;have h2:g.ts.all (fun t=>!(decide (M.cellsOf t=0)||decide (512<M.cellsOf t)))=true:=by
  rw[jg] at ha ⊢;intro t ht;have:=ha t ht;unfold M.uX at this;simp at this ⊢;omega
 rw[h2,he]
 rfl
end R
theorem aqL(b:Nat)(g:R.bX)(w:World)(h:lB w b g)(hw:EC g) :
  Calls prog 113 #[.pointer (some ⟨b,0,none⟩)] w fun e w'=>e=.returned (.bool (R.uE g))/\w.grownBy w' none:=by
 have iq:=hw.nt;have j9:=hw.no;have By:=hw.nu;have HW:=ae hw;obtain⟨a1,c1,a2,c2,a3,c3,hB,hT,hO,hU⟩:=h;have HB:=ae hB;have HT:=ae hT;clear hB hT hO hU hw;go_enter func113,ntmps113;go_wp2;go_loopw[3,4] (fun s i wr=>∃(j:Nat) (sum:Int),Hid (j<=g.ts.length)/\i=.int .i64 j/\s=.int .i64 sum/\Hid (Bx g.ts j sum)/\w.grownBy wr none) (fun _ i _=>g.ts.length-(intOf i).toNat)
 case atStart=>exact⟨0,0,bK _,rfl,rfl,⟨by simp[M.sumTo],by omega,by simp,by simp⟩,gL _ _⟩
 case round=>
  obtain⟨j,sum,Hj,rfl,rfl,HL,bO⟩:=hrel;have eM:=HB.out.kept bO (by simp);have q0:wr.cell? ⟨b,0,none⟩=some (.slice a1 g.ts.length c1):=eM.cell 0;have q1:wr.cell? ⟨b,1,none⟩=some (.slice a2 g.ag.length c2):=eM.cell 1;have q2:wr.cell? ⟨b,2,none⟩=some (.slice a3 g.aJ.length c3):=eM.cell 2;have s0:=HL.out.lo;have s1:=HL.out.hi;have cT:=ae bO;by_cases aK:j<g.ts.length
  ·obtain⟨t,ht⟩:∃t,g.ts[j]?=some t:=⟨_,aT aK⟩
   obtain⟨ga,ao,cp,rfl,-,-,-,d0,d1,d2,d3,-,-⟩:=(HT.out.Z bO).get j t ht;have wt:=HW.out.ts t (bV ht);have Ht:=ae ht;have vN:=ae wt;clear ht wt eM bO;go_wp2_with fail;refine(F8 ga (j*6) t wr vN.out d1 d2 d3).mono ?_;rintro e w2⟨rfl,nd,rfl⟩;have dZ:=ae (aC cT.out (bF wr nd none));have Gc:0<=M.cellsOf t/\M.cellsOf t<=16581375:=by
    have:=wT vN.out.h0 vN.out.h1 vN.out.w0 vN.out.w1 vN.out.c0 vN.out.c1;unfold M.cellsOf;omega
   by_cases fy:M.cellsOf t=0\/512<M.cellsOf t
   ·have HN:=ae (R.aqJ Ht.out fy)
    have pO:(M.cellsOf t==0)=true\/((M.cellsOf t==0)=false/\decide (M.cellsOf t > 512)=true):=by
     rcases fy with hb|hb
     ·exact .inl (by simp[hb])
     ·exact .inr ⟨by simp;omega,eG hb⟩
    clear fy Gc;generalize M.cellsOf t=n at *;rcases pO with k1|⟨k1,k2⟩
    all_goals
     go_wp2;go_ret;exact⟨bq HN.out.symm,dZ.out⟩
   ·have k1:(M.cellsOf t==0)=false:=by simp;omega
    have k2:decide (M.cellsOf t > 512)=false:=eD (by omega);have qP:=ae (HL.out.step Ht.out (by omega) (by omega));have OE:1<=M.cellsOf t/\M.cellsOf t<=512:=by omega
    clear fy Gc;have adj:part t=if t.af=0\/t.af=3 then M.cellsOf t else 0:=rfl;have Hp:=ae adj;clear adj;generalize M.cellsOf t=n at *;obtain⟨Is,hn9⟩:=OE;have pO:(t.af==0)=true/\part t=n\/((t.af==0)=false/\(t.af==3)=true/\part t=n)\/((t.af==0)=false/\(t.af==3)=false/\part t=0):=by
     by_cases h0:t.af=0
     ·exact .inl ⟨by simp[h0],by rw[Hp.out,ay (.inl h0)]⟩
     ·by_cases h3:t.af=3
      ·exact .inr (.inl ⟨by simp[h0],by simp[h3],by rw[Hp.out,ay (.inr h3)]⟩)
      ·exact .inr (.inr ⟨by simp[h0],by simp[h3],by rw[Hp.out,ak (by omega)]⟩)
    rcases pO with⟨z1,zp⟩|⟨z1,z2,zp⟩|⟨z1,z2,zp⟩
    all_goals
     rw[zp] at qP;clear zp;go_wp2;go_roundw
     case rel=>exact⟨j+1,_,(by unfold Hid;omega),by go_num,(by first|rfl|(simp;done)),qP.out,dZ.out⟩
     case measure=>simp[intOf];omega
  ·obtain rfl:j=g.ts.length:=by have:=Hj.out;omega
   have He:=ae (R.aqK HL.out);clear aK eM bO;by_cases y1:g.ts.length<=24
   ·by_cases y2:g.ag.length<=16
    ·by_cases y3:sum<=2048
     ·have z3:decide (sum<=2048)=true:=eG y3
      go_wp2;go_ret;refine⟨bq ?_,cT.out⟩;rw[He.out,eG y1,eG y2,eG y3];simp
     ·have z3:decide (sum<=2048)=false:=eD y3
      have Y3:=ae y3;clear y3;go_wp2;go_ret;refine⟨bq ?_,cT.out⟩;rw[He.out,eD (show ¬sum<=2048 by have:=Y3.out;omega)];simp
    ·go_wp2
     go_ret;refine⟨bq ?_,cT.out⟩;rw[He.out,eD y2];simp
   ·go_wp2
    go_ret;refine⟨bq ?_,cT.out⟩;rw[He.out,eD y1];simp
end Go.Proofs.YtcnhfffgbamonabGreat
