import Derived.Test.YtcnhfffgbamonaaGreatZ21
set_option maxRecDepth 100000
set_option maxHeartbeats 6400000
namespace Go.Proofs.YtcnhfffgbamonaaGreat
open Go.Proofs.Tryz
open RowKit
theorem Tryz.apw:(prog.info? 173).map (fun i=>(i.zero,i.size,i.bytes))=some (some (.agg #[.int .i64 0,.int .i64 0,.bool false]),3,24):=by kernel_rfl
def zB(w:World)(v:Value)(ss:List Sp):Prop:=
 ∃G,v=.slice (some ⟨G,0,none⟩) ss.length ss.length/\∀(i:Nat) s,ss[i]?=some s->∃g,w.cell? ⟨G,i*3,none⟩=some (.int .i64 s.af)/\w.cell? ⟨G,i*3+1,none⟩=some (.slice (some ⟨g,0,none⟩) s.bS.length s.bS.length)/\w.cell? ⟨G,i*3+2,none⟩=some (.int .i64 s.to)/\∀(k:Nat) x,s.bS[k]?=some x->w.cell? ⟨g,k,none⟩=some (.int .i64 x)
theorem zB.Z{w w':World}{v:Value}{ss:List Sp}(h:zB w v ss)(hg:w.grownBy w' none):zB w' v ss:=by
 obtain⟨G,e,h⟩:=h;refine⟨G,e,fun i s hs=>?_⟩;obtain⟨g,h1,h2,h3,h4⟩:=h i s hs;exact⟨g,aG hg h1,aG hg h2,aG hg h3,fun k x hx=>aG hg (h4 k x hx)⟩
theorem zB.get{w:World}{G n c:Nat}{ss:List Sp}(h:zB w (.slice (some ⟨G,0,none⟩) n c) ss)(i:Nat)(s:Sp)(hs:ss[i]?=some s):∃g,w.cell? ⟨G,i*3,none⟩=some (.int .i64 s.af)/\w.cell? ⟨G,i*3+1,none⟩=some (.slice (some ⟨g,0,none⟩) s.bS.length s.bS.length)/\w.cell? ⟨G,i*3+2,none⟩=some (.int .i64 s.to)/\∀(k:Nat) x,s.bS[k]?=some x->w.cell? ⟨g,k,none⟩=some (.int .i64 x):=by
 obtain⟨G',e,h⟩:=h;injection e with e _ _;injection e with e;injection e with e;subst e;exact h i s hs
theorem acz(gs:List Nat)(ss:List Sp):(List.zipWith sg gs ss).flatten=(List.zip gs ss).flatMap fun p=>sg p.1 p.2:=by
 induction gs generalizing ss with
 |nil=>rfl
 |cons g gs ih=>
  cases ss with
  |nil=>rfl
  |cons s ss=>rw[List.zipWith_cons_cons,List.flatten_cons,ih,List.zip_cons_cons,List.flatMap_cons]
theorem mA.Kg{w:World}{B G:Nat}{gs:List Nat}{ss:List Sp}(h:mA w B G gs ss):zB w (.slice (some ⟨G,0,none⟩) ss.length ss.length) ss:=by
 refine⟨G,rfl,fun i s hs=>?_⟩;have hl:=M.bP hs;obtain⟨g,hg⟩:∃g,gs[i]?=some g:=⟨_,aS (by rw[h.len];exact hl)⟩;have cF:∀j,j<3->w.cell? ⟨G,i*3+j,none⟩=(sg g s)[j]?:=by
  intro j hj;rw[h.out.cell (i*3+j),nP,acz];exact lP (fun p:Nat×Sp=>sg p.1 p.2) 3 (fun _=>rfl) (List.zip gs ss) i j (g,s) (by rw[List.getElem?_zip_eq_some];exact⟨hg,hs⟩) hj
 refine⟨g,cF 0 (by omega),cF 1 (by omega),cF 2 (by omega),fun k x hx=>?_⟩;rw[(h.gy i g s hg hs).cell k,nP,dV,hx]
 rfl
theorem CO{w:World}{g n c:Nat}{l:List Int}(h:aj w g 3 (l.map (Value.int .i64)).toArray)(hn:n=l.length):Sl w (.slice (some ⟨g,0,none⟩) n c) l:=by
 subst hn;refine⟨some ⟨g,0,none⟩,c,rfl,fun i y hy=>⟨_,rfl,?_⟩⟩;rw[vy,h.cell i,nP,dV,hy]
 rfl
theorem apx(n:Nat):(madeCells #[.int .i64 0,.int .i64 0,.bool false] (n*3)).toList=(List.replicate n T.no).flatMap kA:=by
 apply nM
 intro i;by_cases h:i<n*3
 ·have e1:=lP kA 3 (fun _=>rfl) (List.replicate n T.no) (i/3) (i%3) T.no (by rw[ui,ay (by omega)]) (by omega)
  rw[show i/3*3+i%3=i by omega] at e1;rw[e1];rcases(show i%3=0\/i%3=1\/i%3=2 by omega) with e|e|e<;>rw[e]<;>simp[madeCells,h,kA,T.no,e]
 ·rw[db,db]
  ·rw[apm,vT];omega
  ·simp[madeCells];omega
theorem zC{l:List T.Lf}{i:Nat}(h:i<l.length):l[i]?=some (l.getD i T.no):=by rw[List.getD,aS h];rfl
theorem apy(N:Nat)(G gi ci go co:Nat)(ss:List Sp)(is us:List Int)(w:World)(hS:zB w (.slice (some ⟨G,0,none⟩) ss.length ss.length) ss)(hI:Sl w (.slice (some ⟨gi,0,none⟩) is.length ci) is)(hU:Sl w (.slice (some ⟨go,0,none⟩) us.length co) us)(hN:N<=1000)(hs:ss.length<=1000)(hi:is.length<=1000)(hu:us.length<=1000)(hf:∀s∈ss,s.bS.length<=1000)(ok:T.Om N ss is us):
 Calls prog 77 #[.int .i64 N,.slice (some ⟨G,0,none⟩) ss.length ss.length,.slice (some ⟨gi,0,none⟩) is.length ci,.slice (some ⟨go,0,none⟩) us.length co] w fun e w'=>e=.returned (.tuple #[.slice (some ⟨w.heap.size,0,none⟩) N N,.bool true])/\aj w' w.heap.size 173 ((T.uJ N ss is us).flatMap kA).toArray/\w.grownBy w' none:=by
 obtain⟨i0,mB,cP,cQ,cZ⟩:=info_parts Tryz.apw;have HS:=ae hS;have HI:=ae hI;have HU:=ae hU;have jx:=ae ok;have Hf:=ae hf;clear hS hI hU ok hf;go_enter func77,ntmps77;go_wp2_with(at_make;refine qg _ rfl _ _ 121 rfl w.heap.size 173 i0 (.agg #[.int .i64 0,.int .i64 0,.bool false]) 3 underlying121 mB cP cQ _ _ _ _ N rfl rfl rfl rfl ?c1 ?c2 ?c3 ?_)
 case c1=>rw[cZ];omega
 case c2=>unfold maxLen;omega
 case c3=>exact bj _
 intro w2 cB aM;have ff:aj w2 w.heap.size 173 ((T.jR N is 0).flatMap kA).toArray:=by
  rcases cB.2 with⟨h',_⟩|⟨g',LV,dY,h',_,hg,_,_,hz,ht⟩
  ·simp at h'
  ·simp only[Value.slice.injEq,kj,oP,and_true,true_and] at h'
   obtain⟨rfl,rfl⟩:=h';unfold aj;rw[hg];have e:dY.toList=(T.jR N is 0).flatMap kA:=by
    rw[BF (by simp[hz])] at ht;rw[ht];exact apx N
   rw[<-e]
 clear cB;go_wp2;go_loopw[11] (fun i wr=>∃k:Nat,k<=is.length/\i=.int .i64 k/\aj wr w.heap.size 173 ((T.jR N is k).flatMap kA).toArray/\w.grownBy wr none) (fun i _=>is.length-(intOf i).toNat)
 case atStart=>exact⟨0,bK _,rfl,ff,aM⟩
 case round=>
  clear ff aM;obtain⟨k,hk,rfl,bV,aF⟩:=hrel;by_cases aJ:k<is.length
  ·obtain⟨x,hx⟩:∃x,is[k]?=some x:=⟨_,aS aJ⟩
   obtain⟨x0,x1,x2⟩:=jx.out.ins k x hx;obtain⟨n,rfl⟩:=fT x0;rw[eC] at x2;have hl:n<(T.jR N is k).length:=by rw[T.Oj];omega
   have eH:=zC hl;obtain⟨c0,c1,c2⟩:=zx bV eH;rw[x2] at c2;obtain⟨a,ea,dx⟩:=(HI.out.Z aF).get k _ hx;injection ea with ea;subst ea;rw[vy] at dx;have f0:=bV.free (n*3);have f1:=bV.free (n*3+1);have f2:=bV.free (n*3+2);have AU:=bV.lt;have g3:=aC (bD wr w.heap.size (n*3) (.int .i64 (-1))) (aC (bD _ w.heap.size (n*3+1) (.int .i64 (-1))) (bD _ w.heap.size (n*3+2) (.bool true)));have fU:=ae (((bV.set (n*3) (.int .i64 (-1))).set (n*3+1) (.int .i64 (-1))).set (n*3+2) (.bool true));rw[acw eH,show((T.jR N is k).set n ⟨-1,-1,true⟩)=T.jR N is (k+1) by rw[T.abY hx,eC]] at fU;have fR:=ae (dF aF g3 (bj _));clear hx bV aF eH g3 x2 hl;go_wp2;go_roundw
   case rel=>exact⟨k+1,by omega,by go_num,fU.out,fR.out⟩
   case measure=>simp[intOf];omega
  ·obtain rfl:k=is.length:=by omega
   have eK:=ae bV;have bH:=ae aF;clear bV aF;go_wp2;go_loopw[12] (fun i wr=>∃k:Nat,k<=ss.length/\i=.int .i64 k/\aj wr w.heap.size 173 ((T.stTo (T.jR N is is.length) ss k).flatMap kA).toArray/\w.grownBy wr none) (fun i _=>ss.length-(intOf i).toNat)
   case atStart=>exact⟨0,bK _,rfl,eK.out,bH.out⟩
   case round=>
    clear eK bH;obtain⟨k,hk,rfl,bV,aF⟩:=hrel;by_cases aJ:k<ss.length
    ·obtain⟨s,jJ⟩:∃s,ss[k]?=some s:=⟨_,aS aJ⟩
     have OB:=Hf.out s (bU jJ);have Hs:=ae jJ;have eK:=ae bV;have bH:=ae aF;clear jJ bV aF;go_wp2;go_loopw[13,14] (fun m i wr=>∃(j:Nat) (sm:Bool),j<=s.bS.length/\m=.bool sm/\i=.int .i64 j/\Hid (sm=(s.bS.take j).any fun b=>decide (0<=b))/\aj wr w.heap.size 173 ((T.js k (T.stTo (T.jR N is is.length) ss k) s.bS j).flatMap kA).toArray/\w.grownBy wr none) (fun _ i _=>s.bS.length-(intOf i).toNat)
     case atStart=>exact⟨0,false,bK _,rfl,rfl,rfl,eK.out,bH.out⟩
     case round=>
      clear eK bH;obtain⟨j,sm,hj,rfl,rfl,OC,eP,bO⟩:=hrel;obtain⟨g,-,d1,d2,rl⟩:=(HS.out.Z bO).get k s Hs.out;by_cases lk:j<s.bS.length
      ·obtain⟨x,hx⟩:∃x,s.bS[j]?=some x:=⟨_,aS lk⟩
       have dx:=rl j x hx;obtain⟨x0,x1,x2⟩:=jx.out.rd k s Hs.out j x hx;have OD:=ae (show(sm||decide (0<=x))=(s.bS.take (j+1)).any fun b=>decide (0<=b) by rw[H.kd hx,List.any_append,<-OC.out];simp);have cV:=ae bO;clear d2 rl OC;by_cases mH:0<=x
       ·obtain⟨n,rfl⟩:=fT mH
        have hl:n<(T.js k (T.stTo (T.jR N is is.length) ss k) s.bS j).length:=by rw[T.Kb,T.Kc,T.Oj];omega
        have eH:=zC hl;have hm:=x2 mH;rw[eC] at hm;obtain⟨-,c1,c2⟩:=zx eP eH;rw[hm] at c2;have f1:=eP.free (n*3+1);have AU:=eP.lt;have fU:=ae (eP.set (n*3+1) (.int .i64 k));rw[Tk eH] at fU;have e:(T.js k (T.stTo (T.jR N is is.length) ss k) s.bS j).set n ⟨((T.js k (T.stTo (T.jR N is is.length) ss k) s.bS j).getD n T.no).f,k,((T.js k (T.stTo (T.jR N is is.length) ss k) s.bS j).getD n T.no).m⟩=T.js k (T.stTo (T.jR N is is.length) ss k) s.bS (j+1):=by
         rw[T.Ol hx];unfold T.rd;rw[ay mH,eC]
        rw[e] at fU;have fR:=ae (dF cV.out (bD wr w.heap.size (n*3+1) (.int .i64 k)) (bj _));have To:=ae (show true=(s.bS.take (j+1)).any fun b=>decide (0<=b) by rw[<-OD.out,eG mH,Bool.or_true]);clear hx eP bO eH hm x2 hl e OD;go_wp2;go_roundw
        case rel=>exact⟨j+1,true,by omega,rfl,by go_num,To.out,fU.out,fR.out⟩
        case measure=>simp[intOf];omega
       ·obtain rfl:x = -1:=by omega
        have e:T.js k (T.stTo (T.jR N is is.length) ss k) s.bS (j+1)=T.js k (T.stTo (T.jR N is is.length) ss k) s.bS j:=by
         rw[T.Ol hx];unfold T.rd;rw[ak (by decide)]
        rw[<-e] at eP;have fU:=ae eP;have To:=ae (show sm=(s.bS.take (j+1)).any fun b=>decide (0<=b) by rw[<-OD.out];simp);clear hx eP bO x2 e OD;go_wp2;go_roundw
        case rel=>exact⟨j+1,sm,by omega,rfl,by go_num,To.out,fU.out,cV.out⟩
        case measure=>simp[intOf];omega
      ·obtain rfl:j=s.bS.length:=by omega
       obtain⟨t0,t1,t2⟩:=jx.out.to k s Hs.out;have Ca:sm=true:=by
        rw[OC.out,jm,List.any_eq_true];obtain⟨b,hb,xT⟩:=jx.out.aoD k s Hs.out;exact⟨b,hb,eG xT⟩
       subst Ca;obtain⟨n,hn⟩:=fT t0;rw[hn] at d2 t1;rw[hn,eC] at t2;have hl:n<(T.js k (T.stTo (T.jR N is is.length) ss k) s.bS s.bS.length).length:=by rw[T.Kb,T.Kc,T.Oj];omega
       have eH:=zC hl;obtain⟨c0,c1,c2⟩:=zx eP eH;rw[t2] at c2;have f0:=eP.free (n*3);have f1:=eP.free (n*3+1);have f2:=eP.free (n*3+2);have AU:=eP.lt;have g3:=aC (bD wr w.heap.size (n*3) (.int .i64 k)) (aC (bD _ w.heap.size (n*3+1) (.int .i64 k)) (bD _ w.heap.size (n*3+2) (.bool true)));have fU:=ae (((eP.set (n*3) (.int .i64 k)).set (n*3+1) (.int .i64 k)).set (n*3+2) (.bool true));rw[acw eH,show((T.js k (T.stTo (T.jR N is is.length) ss k) s.bS s.bS.length).set n ⟨k,k,true⟩)=T.stTo (T.jR N is is.length) ss (k+1) by rw[T.ab2 Hs.out,hn,eC]] at fU;have fR:=ae (dF bO g3 (bj _));clear eP bO eH g3 t2 hl hn t0 rl OC;go_wp2;go_roundw
       case rel=>exact⟨k+1,by omega,by go_num,fU.out,fR.out⟩
       case measure=>simp[intOf];omega
    ·obtain rfl:k=ss.length:=by omega
     have eK:Hid (aj wr w.heap.size 173 ((T.js ss.length (T.mid N ss is) us 0).flatMap kA).toArray):=bV;have bH:=ae aF;clear bV aF;go_wp2;go_loopw[17] (fun i wr=>∃j:Nat,j<=us.length/\i=.int .i64 j/\aj wr w.heap.size 173 ((T.js ss.length (T.mid N ss is) us j).flatMap kA).toArray/\w.grownBy wr none) (fun i _=>us.length-(intOf i).toNat)
     case atStart=>exact⟨0,bK _,rfl,eK.out,bH.out⟩
     case round=>
      clear eK bH;obtain⟨j,hj,rfl,eP,bO⟩:=hrel;by_cases lk:j<us.length
      ·obtain⟨x,hx⟩:∃x,us[j]?=some x:=⟨_,aS lk⟩
       obtain⟨x0,x1,x2⟩:=jx.out.aK j x hx;obtain⟨a,ea,dx⟩:=(HU.out.Z bO).get j x hx;injection ea with ea;subst ea;rw[vy] at dx;have cV:=ae bO;by_cases mH:0<=x
       ·obtain⟨n,rfl⟩:=fT mH
        have hl:n<(T.js ss.length (T.mid N ss is) us j).length:=by rw[T.Kb,T.abX];omega
        have eH:=zC hl;have hm:=x2 mH;rw[eC] at hm;obtain⟨-,c1,c2⟩:=zx eP eH;rw[hm] at c2;have f1:=eP.free (n*3+1);have AU:=eP.lt;have fU:=ae (eP.set (n*3+1) (.int .i64 ss.length));rw[Tk eH] at fU;have e:(T.js ss.length (T.mid N ss is) us j).set n ⟨((T.js ss.length (T.mid N ss is) us j).getD n T.no).f,ss.length,((T.js ss.length (T.mid N ss is) us j).getD n T.no).m⟩=T.js ss.length (T.mid N ss is) us (j+1):=by
         rw[T.Ol hx];unfold T.rd;rw[ay mH,eC]
        rw[e] at fU;have fR:=ae (dF cV.out (bD wr w.heap.size (n*3+1) (.int .i64 ss.length)) (bj _));clear hx eP bO eH hm x2 hl e;go_wp2;go_roundw
        case rel=>exact⟨j+1,by omega,by go_num,fU.out,fR.out⟩
        case measure=>simp[intOf];omega
       ·obtain rfl:x = -1:=by omega
        have e:T.js ss.length (T.mid N ss is) us (j+1)=T.js ss.length (T.mid N ss is) us j:=by
         rw[T.Ol hx];unfold T.rd;rw[ak (by decide)]
        rw[<-e] at eP;have fU:=ae eP;clear hx eP bO x2 e;go_wp2;go_roundw
        case rel=>exact⟨j+1,by omega,by go_num,fU.out,cV.out⟩
        case measure=>simp[intOf];omega
      ·obtain rfl:j=us.length:=by omega
       have eK:Hid (aj wr w.heap.size 173 ((T.uJ N ss is us).flatMap kA).toArray):=eP;have bH:=ae bO;clear eP bO;obtain⟨wq,EB⟩:∃q,Hid (q=wr):=⟨_,rfl⟩;go_wp2;go_loopw[19] (fun i wr=>∃j:Nat,j<=N/\i=.int .i64 j/\wr=wq) (fun i _=>N-(intOf i).toNat)
       case atStart=>exact⟨0,bK _,rfl,EB.out.symm⟩
       case round=>
        obtain⟨j,rK,rfl,hw⟩:=hrel;rw[EB.out] at hw;subst hw;by_cases qn:j<N
        ·have hl:j<(T.uJ N ss is us).length:=by rw[T.aoC];exact qn
         obtain⟨-,-,c2⟩:=zx eK.out (zC hl);rw[jx.out.all j qn] at c2;clear hl;go_wp2;go_roundw
         case rel=>exact⟨j+1,by omega,by go_num,EB.out.symm⟩
         case measure=>simp[intOf];omega
        ·obtain rfl:j=N:=by omega
         go_wp2
         go_ret2
         exact⟨rfl,eK.out,bH.out⟩
end Go.Proofs.YtcnhfffgbamonaaGreat
