import Derived.Test.YtcnhfffgbamonabGreatZ21
set_option maxRecDepth 100000
set_option maxHeartbeats 6400000
namespace Go.Proofs.YtcnhfffgbamonabGreat
open Go.Proofs.Tryz
open Go.RowKit
theorem Tryz.aoo:(prog.info? 186).map (fun i=>(i.zero,i.size,i.bytes))=some (some (.agg #[.int .i64 0,.int .i64 0,.bool false]),3,24):=by kernel_rfl
def yV(w:World)(v:Value)(ss:List Sp):Prop:=
 ∃G,v=.slice (some ⟨G,0,none⟩) ss.length ss.length/\∀(i:Nat) s,ss[i]?=some s->∃g,w.cell? ⟨G,i*3,none⟩=some (.int .i64 s.af)/\w.cell? ⟨G,i*3+1,none⟩=some (.slice (some ⟨g,0,none⟩) s.bS.length s.bS.length)/\w.cell? ⟨G,i*3+2,none⟩=some (.int .i64 s.to)/\∀(k:Nat) x,s.bS[k]?=some x->w.cell? ⟨g,k,none⟩=some (.int .i64 x)
theorem yV.Z{w w':World}{v:Value}{ss:List Sp}(h:yV w v ss)(hg:w.grownBy w' none):yV w' v ss:=by
 obtain⟨G,e,h⟩:=h;refine⟨G,e,fun i s hs=>?_⟩;obtain⟨g,h1,h2,h3,h4⟩:=h i s hs;exact⟨g,aG hg h1,aG hg h2,aG hg h3,fun k x hx=>aG hg (h4 k x hx)⟩
theorem yV.get{w:World}{G n c:Nat}{ss:List Sp}(h:yV w (.slice (some ⟨G,0,none⟩) n c) ss)(i:Nat)(s:Sp)(hs:ss[i]?=some s):∃g,w.cell? ⟨G,i*3,none⟩=some (.int .i64 s.af)/\w.cell? ⟨G,i*3+1,none⟩=some (.slice (some ⟨g,0,none⟩) s.bS.length s.bS.length)/\w.cell? ⟨G,i*3+2,none⟩=some (.int .i64 s.to)/\∀(k:Nat) x,s.bS[k]?=some x->w.cell? ⟨g,k,none⟩=some (.int .i64 x):=by
 obtain⟨G',e,h⟩:=h;injection e with e _ _;injection e with e;injection e with e;subst e;exact h i s hs
theorem abC(gs:List Nat)(ss:List Sp):(List.zipWith rS gs ss).flatten=(List.zip gs ss).flatMap fun p=>rS p.1 p.2:=by
 induction gs generalizing ss with
 | nil=>rfl
 | cons g gs ih=>
  cases ss with
  | nil=>rfl
  | cons s ss=>rw[List.zipWith_cons_cons,List.flatten_cons,ih,List.zip_cons_cons,List.flatMap_cons]
theorem mo.JJ{w:World}{B G:Nat}{gs:List Nat}{ss:List Sp}(h:mo w B G gs ss):yV w (.slice (some ⟨G,0,none⟩) ss.length ss.length) ss:=by
 refine⟨G,rfl,fun i s hs=>?_⟩;have hl:=M.bP hs;obtain⟨g,hg⟩:∃g,gs[i]?=some g:=⟨_,aT (by rw[h.len];exact hl)⟩;have cK:∀j,j<3->w.cell? ⟨G,i*3+j,none⟩=(rS g s)[j]?:=by
  intro j hj;rw[h.out.cell (i*3+j),nH,abC];exact lL (fun p:Nat×Sp=>rS p.1 p.2) 3 (fun _=>rfl) (List.zip gs ss) i j (g,s) (by rw[List.getElem?_zip_eq_some];exact⟨hg,hs⟩) hj
 refine⟨g,cK 0 (by omega),cK 1 (by omega),cK 2 (by omega),fun k x hx=>?_⟩;rw[(h.gF i g s hg hs).cell k,nH,dY,hx]
 rfl
theorem Cz{w:World}{g n c:Nat}{l:List Int}(h:aj w g 3 (l.map (Value.int .i64)).toArray)(hn:n=l.length):Sl w (.slice (some ⟨g,0,none⟩) n c) l:=by
 subst hn;refine⟨some ⟨g,0,none⟩,c,rfl,fun i y hy=>⟨_,rfl,?_⟩⟩;rw[wQ,h.cell i,nH,dY,hy]
 rfl
theorem aop(n:Nat):(madeCells #[.int .i64 0,.int .i64 0,.bool false] (n*3)).toList=(List.replicate n T.no).flatMap ko:=by
 apply nF
 intro i;by_cases h:i<n*3
 ·have e1:=lL ko 3 (fun _=>rfl) (List.replicate n T.no) (i/3) (i%3) T.no (by rw[tV,ay (by omega)]) (by omega)
  rw[show i/3*3+i%3=i by omega] at e1;rw[e1];rcases(show i%3=0\/i%3=1\/i%3=2 by omega) with e|e|e<;>rw[e]<;>simp[madeCells,h,ko,T.no,e]
 ·rw[cX,cX]
  ·rw[aof,vF];omega
  ·simp[madeCells];omega
theorem yW{l:List T.Lf}{i:Nat}(h:i<l.length):l[i]?=some (l.getD i T.no):=by rw[List.getD,aT h];rfl
theorem aoq(N:Nat)(G gi ci go co:Nat)(ss:List Sp)(is us:List Int)(w:World)(hS:yV w (.slice (some ⟨G,0,none⟩) ss.length ss.length) ss)(hI:Sl w (.slice (some ⟨gi,0,none⟩) is.length ci) is)(hU:Sl w (.slice (some ⟨go,0,none⟩) us.length co) us)(hN:N<=1000)(hs:ss.length<=1000)(hi:is.length<=1000)(hu:us.length<=1000)(hf:∀s∈ss,s.bS.length<=1000)(ok:T.NK N ss is us) :
  Calls prog 77 #[.int .i64 N,.slice (some ⟨G,0,none⟩) ss.length ss.length,.slice (some ⟨gi,0,none⟩) is.length ci,.slice (some ⟨go,0,none⟩) us.length co] w fun e w'=>e=.returned (.tuple #[.slice (some ⟨w.heap.size,0,none⟩) N N,.bool true])/\aj w' w.heap.size 186 ((T.ux N ss is us).flatMap ko).toArray/\w.grownBy w' none:=by
 obtain⟨i0,nJ,cQ,cR,cZ⟩:=info_parts Tryz.aoo;have HS:=ae hS;have HI:=ae hI;have HU:=ae hU;have jq:=ae ok;have Hf:=ae hf;clear hS hI hU ok hf;go_enter func77,ntmps77;go_wp2_with (at_make;refine pU _ rfl _ _ 138 rfl w.heap.size 186 i0 (.agg #[.int .i64 0,.int .i64 0,.bool false]) 3 underlying138 nJ cQ cR _ _ _ _ N rfl rfl rfl rfl ?c1 ?c2 ?c3 ?_)
 case c1=>rw[cZ];omega
 case c2=>unfold maxLen;omega
 case c3=>exact bj _
 intro w2 cB aM;have fA:aj w2 w.heap.size 186 ((T.jP N is 0).flatMap ko).toArray:=by
  rcases cB.2 with⟨h',_⟩|⟨g',Ll,dV,h',_,hg,_,_,hz,ht⟩
  ·simp at h'
  ·simp only[Value.slice.injEq,j8,oI,and_true,true_and] at h'
   obtain⟨rfl,rfl⟩:=h';unfold aj;rw[hg];have e:dV.toList=(T.jP N is 0).flatMap ko:=by
    rw[Bo (by simp[hz])] at ht;rw[ht];exact aop N
   rw[<-e]
 clear cB;go_wp2;go_loopw[11] (fun i wr=>∃k:Nat,k<=is.length/\i=.int .i64 k/\aj wr w.heap.size 186 ((T.jP N is k).flatMap ko).toArray/\w.grownBy wr none) (fun i _=>is.length-(intOf i).toNat)
 case atStart=>exact⟨0,bK _,rfl,fA,aM⟩
 case round=>
  clear fA aM;obtain⟨k,hk,rfl,bU,aF⟩:=hrel;by_cases aK:k<is.length
  ·obtain⟨x,hx⟩:∃x,is[k]?=some x:=⟨_,aT aK⟩
   obtain⟨x0,x1,x2⟩:=jq.out.ins k x hx;obtain⟨n,rfl⟩:=fR x0;rw[ey] at x2;have hl:n<(T.jP N is k).length:=by rw[T.NI];omega
   have eH:=yW hl;obtain⟨c0,c1,c2⟩:=yS bU eH;rw[x2] at c2;obtain⟨a,ea,dx⟩:=(HI.out.Z aF).get k _ hx;injection ea with ea;subst ea;rw[wQ] at dx;have f0:=bU.free (n*3);have f1:=bU.free (n*3+1);have f2:=bU.free (n*3+2);have AB:=bU.lt;have g3:=aC (bD wr w.heap.size (n*3) (.int .i64 (-1))) (aC (bD _ w.heap.size (n*3+1) (.int .i64 (-1))) (bD _ w.heap.size (n*3+2) (.bool true)));have fZ:=ae (((bU.set (n*3) (.int .i64 (-1))).set (n*3+1) (.int .i64 (-1))).set (n*3+2) (.bool true));rw[abz eH,show((T.jP N is k).set n ⟨-1,-1,true⟩)=T.jP N is (k+1) by rw[T.ZV hx,ey]] at fZ;have fW:=ae (dF aF g3 (bj _));clear hx bU aF eH g3 x2 hl;go_wp2;go_roundw
   case rel=>exact⟨k+1,by omega,by go_num,fZ.out,fW.out⟩
   case measure=>simp[intOf];omega
  ·obtain rfl:k=is.length:=by omega
   have eJ:=ae bU;have bH:=ae aF;clear bU aF;go_wp2;go_loopw[12] (fun i wr=>∃k:Nat,k<=ss.length/\i=.int .i64 k/\aj wr w.heap.size 186 ((T.stTo (T.jP N is is.length) ss k).flatMap ko).toArray/\w.grownBy wr none) (fun i _=>ss.length-(intOf i).toNat)
   case atStart=>exact⟨0,bK _,rfl,eJ.out,bH.out⟩
   case round=>
    clear eJ bH;obtain⟨k,hk,rfl,bU,aF⟩:=hrel;by_cases aK:k<ss.length
    ·obtain⟨s,jG⟩:∃s,ss[k]?=some s:=⟨_,aT aK⟩
     have NX:=Hf.out s (bV jG);have Hs:=ae jG;have eJ:=ae bU;have bH:=ae aF;clear jG bU aF;go_wp2;go_loopw[13,14] (fun m i wr=>∃(j:Nat) (sm:Bool),j<=s.bS.length/\m=.bool sm/\i=.int .i64 j/\Hid (sm=(s.bS.take j).any fun b=>decide (0<=b))/\aj wr w.heap.size 186 ((T.jl k (T.stTo (T.jP N is is.length) ss k) s.bS j).flatMap ko).toArray/\w.grownBy wr none) (fun _ i _=>s.bS.length-(intOf i).toNat)
     case atStart=>exact⟨0,false,bK _,rfl,rfl,rfl,eJ.out,bH.out⟩
     case round=>
      clear eJ bH;obtain⟨j,sm,hj,rfl,rfl,NY,eM,bO⟩:=hrel;obtain⟨g,-,d1,d2,qT⟩:=(HS.out.Z bO).get k s Hs.out;by_cases kZ:j<s.bS.length
      ·obtain⟨x,hx⟩:∃x,s.bS[j]?=some x:=⟨_,aT kZ⟩
       have dx:=qT j x hx;obtain⟨x0,x1,x2⟩:=jq.out.rd k s Hs.out j x hx;have NZ:=ae (show(sm||decide (0<=x))=(s.bS.take (j+1)).any fun b=>decide (0<=b) by rw[H.kj hx,List.any_append,<-NY.out];simp);have cT:=ae bO;clear d2 qT NY;by_cases mC:0<=x
       ·obtain⟨n,rfl⟩:=fR mC
        have hl:n<(T.jl k (T.stTo (T.jP N is is.length) ss k) s.bS j).length:=by rw[T.JD,T.JE,T.NI];omega
        have eH:=yW hl;have hm:=x2 mC;rw[ey] at hm;obtain⟨-,c1,c2⟩:=yS eM eH;rw[hm] at c2;have f1:=eM.free (n*3+1);have AB:=eM.lt;have fZ:=ae (eM.set (n*3+1) (.int .i64 k));rw[SC eH] at fZ;have e:(T.jl k (T.stTo (T.jP N is is.length) ss k) s.bS j).set n ⟨((T.jl k (T.stTo (T.jP N is is.length) ss k) s.bS j).getD n T.no).f,k,((T.jl k (T.stTo (T.jP N is is.length) ss k) s.bS j).getD n T.no).m⟩=T.jl k (T.stTo (T.jP N is is.length) ss k) s.bS (j+1):=by
         rw[T.NJ hx];unfold T.rd;rw[ay mC,ey]
        rw[e] at fZ;have fW:=ae (dF cT.out (bD wr w.heap.size (n*3+1) (.int .i64 k)) (bj _));have SF:=ae (show true=(s.bS.take (j+1)).any fun b=>decide (0<=b) by rw[<-NZ.out,eG mC,Bool.or_true]);clear hx eM bO eH hm x2 hl e NZ;go_wp2;go_roundw
        case rel=>exact⟨j+1,true,by omega,rfl,by go_num,SF.out,fZ.out,fW.out⟩
        case measure=>simp[intOf];omega
       ·obtain rfl:x = -1:=by omega
        have e:T.jl k (T.stTo (T.jP N is is.length) ss k) s.bS (j+1)=T.jl k (T.stTo (T.jP N is is.length) ss k) s.bS j:=by
         rw[T.NJ hx];unfold T.rd;rw[ak (by decide)]
        rw[<-e] at eM;have fZ:=ae eM;have SF:=ae (show sm=(s.bS.take (j+1)).any fun b=>decide (0<=b) by rw[<-NZ.out];simp);clear hx eM bO x2 e NZ;go_wp2;go_roundw
        case rel=>exact⟨j+1,sm,by omega,rfl,by go_num,SF.out,fZ.out,cT.out⟩
        case measure=>simp[intOf];omega
      ·obtain rfl:j=s.bS.length:=by omega
       obtain⟨t0,t1,t2⟩:=jq.out.to k s Hs.out;have BM:sm=true:=by
        rw[NY.out,jo,List.any_eq_true];obtain⟨b,hb,xC⟩:=jq.out.anA k s Hs.out;exact⟨b,hb,eG xC⟩
       subst BM;obtain⟨n,hn⟩:=fR t0;rw[hn] at d2 t1;rw[hn,ey] at t2;have hl:n<(T.jl k (T.stTo (T.jP N is is.length) ss k) s.bS s.bS.length).length:=by rw[T.JD,T.JE,T.NI];omega
       have eH:=yW hl;obtain⟨c0,c1,c2⟩:=yS eM eH;rw[t2] at c2;have f0:=eM.free (n*3);have f1:=eM.free (n*3+1);have f2:=eM.free (n*3+2);have AB:=eM.lt;have g3:=aC (bD wr w.heap.size (n*3) (.int .i64 k)) (aC (bD _ w.heap.size (n*3+1) (.int .i64 k)) (bD _ w.heap.size (n*3+2) (.bool true)));have fZ:=ae (((eM.set (n*3) (.int .i64 k)).set (n*3+1) (.int .i64 k)).set (n*3+2) (.bool true));rw[abz eH,show((T.jl k (T.stTo (T.jP N is is.length) ss k) s.bS s.bS.length).set n ⟨k,k,true⟩)=T.stTo (T.jP N is is.length) ss (k+1) by rw[T.ZX Hs.out,hn,ey]] at fZ;have fW:=ae (dF bO g3 (bj _));clear eM bO eH g3 t2 hl hn t0 qT NY;go_wp2;go_roundw
       case rel=>exact⟨k+1,by omega,by go_num,fZ.out,fW.out⟩
       case measure=>simp[intOf];omega
    ·obtain rfl:k=ss.length:=by omega
     have eJ:Hid (aj wr w.heap.size 186 ((T.jl ss.length (T.mid N ss is) us 0).flatMap ko).toArray):=bU;have bH:=ae aF;clear bU aF;go_wp2;go_loopw[17] (fun i wr=>∃j:Nat,j<=us.length/\i=.int .i64 j/\aj wr w.heap.size 186 ((T.jl ss.length (T.mid N ss is) us j).flatMap ko).toArray/\w.grownBy wr none) (fun i _=>us.length-(intOf i).toNat)
     case atStart=>exact⟨0,bK _,rfl,eJ.out,bH.out⟩
     case round=>
      clear eJ bH;obtain⟨j,hj,rfl,eM,bO⟩:=hrel;by_cases kZ:j<us.length
      ·obtain⟨x,hx⟩:∃x,us[j]?=some x:=⟨_,aT kZ⟩
       obtain⟨x0,x1,x2⟩:=jq.out.aJ j x hx;obtain⟨a,ea,dx⟩:=(HU.out.Z bO).get j x hx;injection ea with ea;subst ea;rw[wQ] at dx;have cT:=ae bO;by_cases mC:0<=x
       ·obtain⟨n,rfl⟩:=fR mC
        have hl:n<(T.jl ss.length (T.mid N ss is) us j).length:=by rw[T.JD,T.ZU];omega
        have eH:=yW hl;have hm:=x2 mC;rw[ey] at hm;obtain⟨-,c1,c2⟩:=yS eM eH;rw[hm] at c2;have f1:=eM.free (n*3+1);have AB:=eM.lt;have fZ:=ae (eM.set (n*3+1) (.int .i64 ss.length));rw[SC eH] at fZ;have e:(T.jl ss.length (T.mid N ss is) us j).set n ⟨((T.jl ss.length (T.mid N ss is) us j).getD n T.no).f,ss.length,((T.jl ss.length (T.mid N ss is) us j).getD n T.no).m⟩=T.jl ss.length (T.mid N ss is) us (j+1):=by
         rw[T.NJ hx];unfold T.rd;rw[ay mC,ey]
        rw[e] at fZ;have fW:=ae (dF cT.out (bD wr w.heap.size (n*3+1) (.int .i64 ss.length)) (bj _));clear hx eM bO eH hm x2 hl e;go_wp2;go_roundw
        case rel=>exact⟨j+1,by omega,by go_num,fZ.out,fW.out⟩
        case measure=>simp[intOf];omega
       ·obtain rfl:x = -1:=by omega
        have e:T.jl ss.length (T.mid N ss is) us (j+1)=T.jl ss.length (T.mid N ss is) us j:=by
         rw[T.NJ hx];unfold T.rd;rw[ak (by decide)]
        rw[<-e] at eM;have fZ:=ae eM;clear hx eM bO x2 e;go_wp2;go_roundw
        case rel=>exact⟨j+1,by omega,by go_num,fZ.out,cT.out⟩
        case measure=>simp[intOf];omega
      ·obtain rfl:j=us.length:=by omega
       have eJ:Hid (aj wr w.heap.size 186 ((T.ux N ss is us).flatMap ko).toArray):=eM;have bH:=ae bO;clear eM bO;obtain⟨wq,Ed⟩:∃q,Hid (q=wr):=⟨_,rfl⟩;go_wp2;go_loopw[19] (fun i wr=>∃j:Nat,j<=N/\i=.int .i64 j/\wr=wq) (fun i _=>N-(intOf i).toNat)
       case atStart=>exact⟨0,bK _,rfl,Ed.out.symm⟩
       case round=>
        obtain⟨j,rA,rfl,hw⟩:=hrel;rw[Ed.out] at hw;subst hw;by_cases rz:j<N
        ·have hl:j<(T.ux N ss is us).length:=by rw[T.anz];exact rz
         obtain⟨-,-,c2⟩:=yS eJ.out (yW hl);rw[jq.out.all j rz] at c2;clear hl;go_wp2;go_roundw
         case rel=>exact⟨j+1,by omega,by go_num,Ed.out.symm⟩
         case measure=>simp[intOf];omega
        ·obtain rfl:j=N:=by omega
         go_wp2
         go_ret2
         exact⟨rfl,eJ.out,bH.out⟩
end Go.Proofs.YtcnhfffgbamonabGreat
