import Derived.Lib.Strings
import Derived.Test.YtcnhfffgbamonaaGreatZ01
import Derived.Test.YtcnhfffgbamonaaGreatZ09
set_option maxRecDepth 100000
set_option maxHeartbeats 6400000
namespace Go.Proofs.YtcnhfffgbamonaaGreat
open Go.Proofs.Tryz
open Go.RowKit
theorem OS(x:Int)(w:World):Calls prog 130 #[.int .i64 x] w fun e w'=>e=.returned (.int .i64 (R.held x))/\w'=w:=by
 by_cases h1:2147483648<=x
 ·have He:=ae (show R.held x=2147483647 by unfold R.held;rw[ay h1])
  go_enter func130,ntmps130;go_wp2;go_ret;exact⟨cH He.out.symm,rfl⟩
 ·by_cases h2:x < -2147483648
  ·have He:=ae (show R.held x = -2147483648 by unfold R.held;rw[ak h1,ay h2])
   go_enter func130,ntmps130;go_wp2;go_ret;exact⟨cH He.out.symm,rfl⟩
  ·have He:=ae (show R.held x=x by unfold R.held;rw[ak h1,ak h2])
   go_enter func130,ntmps130;go_wp2;go_ret;exact⟨cH He.out.symm,rfl⟩
theorem aqp(a b:Int)(hb:1<=b)(B:Int)(h0:-B<=a)(h1:a<=B):-B<=a.tdiv b/\a.tdiv b<=B/\-B<=a.tdiv b*b/\a.tdiv b*b<=B:=by
 rcases(show 0<=a\/a<0 from by omega) with ha|ha
 ·have e:a.tdiv b=a/b:=Int.tdiv_eq_ediv_of_nonneg ha
  have q0:0<=a/b:=Int.ediv_nonneg ha (by omega);have q1:a/b<=a:=Int.ediv_le_self _ ha;have q2:a/b*b<=a:=Int.ediv_mul_le _ (by omega);have q3:0<=a/b*b:=lg q0 (by omega);rw[e];omega
 ·have e:a.tdiv b = -((-a)/b):=by
   have:=Int.neg_tdiv (-a) b;rw[Int.neg_neg] at this;rw[this,Int.tdiv_eq_ediv_of_nonneg (by omega)]
  have q0:0<=(-a)/b:=Int.ediv_nonneg (by omega) (by omega);have q1:(-a)/b<=-a:=Int.ediv_le_self _ (by omega);have q2:(-a)/b*b<=-a:=Int.ediv_mul_le _ (by omega);have q3:0<=(-a)/b*b:=lg q0 (by omega);rw[e,Int.neg_mul];omega
theorem aqq{a b:Int}(hb:1<=b)(h:a<a.tdiv b*b):a.tdiv b-1=a/b:=by
 have e1:=Int.mul_tdiv_add_tmod a b;have m2:=Int.lt_tmod_of_pos a (show 0<b by omega);have c:=Int.mul_comm b (a.tdiv b)
 symm
 rw[Int.ediv_eq_iff_of_pos (by omega)];have d:(a.tdiv b-1)*b=a.tdiv b*b-b:=by rw[Int.sub_mul,Int.one_mul]
 omega
theorem aqr{a b:Int}(hb:1<=b)(h:a.tdiv b*b<=a):a.tdiv b=a/b:=by
 have e1:=Int.mul_tdiv_add_tmod a b;have m1:=Int.tmod_lt_of_pos a (show 0<b by omega);have c:=Int.mul_comm b (a.tdiv b)
 symm
 rw[Int.ediv_eq_iff_of_pos (by omega)];omega
theorem Gm(a b:Int)(w:World)(a0:-4611686018427387904<=a)(a1:a<=4611686018427387904)(b0:1<=b)(b1:b<=4611686018427387904) :
  Calls prog 160 #[.int .i64 a,.int .i64 b] w fun e w'=>e=.returned (.int .i64 (a/b))/\w'=w:=by
 obtain⟨t0,t1,t2,t3⟩:=aqp a b b0 4611686018427387904 a0 a1;by_cases h:a<a.tdiv b*b
 ·have He:=ae (aqq b0 h)
  go_enter func160,ntmps160;go_wp2;go_ret;exact⟨cH He.out,rfl⟩
 ·have He:=ae (aqr b0 (show a.tdiv b*b<=a by omega))
  go_enter func160,ntmps160;go_wp2;go_ret;exact⟨cH He.out,rfl⟩
theorem adn(n:Nat):(2:Int) ^ n=((2 ^ n:Nat):Int):=by rw[Int.natCast_pow];rfl
theorem C0(n:Int)(w:World)(n0:0<=n)(n1:n<=61) :
  Calls prog 128 #[.int .i64 n] w fun e w'=>e=.returned (.int .i64 (2 ^ n.toNat))/\w'=w:=by
 obtain⟨n,rfl⟩:=fT n0;rw[eC];go_enter func128,ntmps128;go_wp2
 go_loop [0,3] (fun i p=>∃(k:Nat) (q:Int),k<=n/\i=.int .i64 ((n-k:Nat):Int)/\p=.int .i64 q/\Hid (q=2 ^ k)/\1<=q/\q<=2305843009213693952) (fun i _=>(intOf i).toNat)
 case atStart=>exact⟨0,1,bK _,by simp,rfl,by simp[Hid],by omega,by omega⟩
 case round=>
  obtain⟨k,q,hk,rfl,rfl,HQ,q0,q1⟩:=hrel;by_cases aJ:k<n
  ·have hq2:2*q<=2305843009213693952:=by
    have e:2*q=2 ^ (k+1):=by rw[HQ.out,Int.pow_succ];omega
    rw[e];have hN:(2:Nat) ^ (k+1)<=2305843009213693952:=jN (Nat.pow_le_pow_right (n:=2) (by decide) (show k+1<=61 by omega)) (by decide);rw[adn];omega
   obtain⟨m,hm⟩:∃m,n-k=m+1:=⟨n-k-1,by omega⟩;have ayt:m<=61:=by omega
   rw[hm];have Hm:=ae hm;clear hm;go_wp2
   go_round
   case rel=>
    have:=Hm.out;refine⟨k+1,2*q,by omega,?_,rfl,?_,by omega,hq2⟩
    ·rw[show n-(k+1)=m from by omega]
    ·unfold Hid;rw[HQ.out,Int.pow_succ];omega
   case measure=>simp[intOf]
  ·obtain rfl:k=n:=by omega
   rw[Nat.sub_self];go_wp2;go_ret;exact⟨cH HQ.out,rfl⟩
theorem TO(x lo hi:Int)(w:World):Calls prog 132 #[.int .i64 x,.int .i64 lo,.int .i64 hi] w fun e w'=>e=.returned (.int .i64 (R.cW x lo hi))/\w'=w:=by
 by_cases h1:x<lo
 ·have He:=ae (show R.cW x lo hi=lo by unfold R.cW;rw[ay h1])
  go_enter func132,ntmps132;go_wp2;go_ret;exact⟨cH He.out.symm,rfl⟩
 ·by_cases h2:hi<x
  ·have He:=ae (show R.cW x lo hi=hi by unfold R.cW;rw[ak h1,ay h2])
   go_enter func132,ntmps132;go_wp2;go_ret;exact⟨cH He.out.symm,rfl⟩
  ·have He:=ae (show R.cW x lo hi=x by unfold R.cW;rw[ak h1,ak h2])
   go_enter func132,ntmps132;go_wp2;go_ret;exact⟨cH He.out.symm,rfl⟩
theorem ado(n:Nat)(h:n<=31):(1:Int)<=2 ^ n/\(2:Int) ^ n<=2147483648:=by
 have h1:(1:Nat)<=2 ^ n:=Nat.one_le_two_pow;have h2:(2:Nat) ^ n<=2147483648:=jN (Nat.pow_le_pow_right (n:=2) (by decide) h) (by decide);rw[adn];generalize (2:Nat) ^ n=q at *;omega
theorem OT{x p X Q:Int}(x0:-X<=x)(x1:x<=X)(p0:0<=p)(p1:p<=Q):-(X*Q)<=x*p/\x*p<=X*Q:=by
 have hX:0<=X:=by omega
 have a:X*p<=X*Q:=Int.mul_le_mul_of_nonneg_left p1 hX;have b:x*p<=X*p:=Int.mul_le_mul_of_nonneg_right x1 p0;have c:(-X)*p<=x*p:=Int.mul_le_mul_of_nonneg_right x0 p0;rw[Int.neg_mul] at c;omega
theorem TP(x m s:Int)(w:World)(x0:-2147483648<=x)(x1:x<=2147483648)(m0:0<=m)(m1:m<=2147483647)(s0:-31<=s)(s1:s<=30) :
  Calls prog 129 #[.int .i64 x,.int .i64 m,.int .i64 s] w fun e w'=>e=.returned (.int .i64 (R.iN x m s))/\w'=w:=by
 have Iy:∀y,R.oS x s=y->R.iN x m s=R.sX (R.rM y m) s:=fun y hy=>by unfold R.iN;rw[hy]
 have Mf:=ae Iy;clear Iy;by_cases hs:0<s
 ·obtain⟨p0,p1⟩:=ado s.toNat (by omega)
  have hy:=ae (show R.oS x s=R.held (x*2 ^ s.toNat) by unfold R.oS;rw[ay hs]);obtain⟨q0,q1⟩:=OT x0 x1 (show 0<=(2:Int) ^ s.toNat by omega) p1;have hl:=ae (show R.sX (R.rM (R.held (x*2 ^ s.toNat)) m) s=R.rM (R.held (x*2 ^ s.toNat)) m by unfold R.sX;rw[ay (by omega)]);go_enter func129,ntmps129;go_wp2_with fail;refine(C0 s w (by omega) (by omega)).mono ?_;rintro e w1⟨rfl,eM⟩;rw[eM];clear eM;generalize (2:Int) ^ s.toNat=P at *;go_wp2_with fail;refine(OS (x*P) w).mono ?_;rintro e w1⟨rfl,eM⟩;rw[eM];clear eM;obtain⟨y0,y1⟩:=R.BX (x*P);generalize R.held (x*P)=y at *;go_wp2_with fail;refine(C0 30 w (by omega) (by omega)).mono ?_;rintro e w1⟨rfl,eM⟩;rw[eM];clear eM;go_wp2_with fail;refine(C0 31 w (by omega) (by omega)).mono ?_;rintro e w1⟨rfl,eM⟩;rw[eM];clear eM;obtain⟨z0,z1⟩:=OT y0 (show y<=2147483648 by omega) m0 m1;go_wp2_with fail;refine(Gm (y*m+1073741824) 2147483648 w (by omega) (by omega) (by omega) (by omega)).mono ?_;rintro e w1⟨rfl,eM⟩;rw[eM];clear eM;go_wp2_with fail;refine(OS _ w).mono ?_;rintro e w1⟨rfl,eM⟩;rw[eM];clear eM;have he:=ae (show R.iN x m s=R.held ((y*m+1073741824)/2147483648) by rw[Mf.out y hy.out,hl.out];rfl);clear z0 z1 q0 q1;generalize R.held ((y*m+1073741824)/2147483648)=hh at *;go_wp2;go_ret;exact⟨cH he.out.symm,rfl⟩
 ·have hy:=ae (show R.oS x s=x by unfold R.oS;rw[ak hs])
  go_enter func129,ntmps129;go_wp2_with fail;refine(C0 30 w (by omega) (by omega)).mono ?_;rintro e w1⟨rfl,eM⟩;rw[eM];clear eM;go_wp2_with fail;refine(C0 31 w (by omega) (by omega)).mono ?_;rintro e w1⟨rfl,eM⟩;rw[eM];clear eM;obtain⟨z0,z1⟩:=OT x0 x1 m0 m1;go_wp2_with fail;refine(Gm (x*m+1073741824) 2147483648 w (by omega) (by omega) (by omega) (by omega)).mono ?_;rintro e w1⟨rfl,eM⟩;rw[eM];clear eM;go_wp2_with fail;refine(OS _ w).mono ?_;rintro e w1⟨rfl,eM⟩;rw[eM];clear eM;obtain⟨h0,h1⟩:=R.BX ((x*m+1073741824)/2147483648);have he:=ae (show R.iN x m s=R.sX (R.held ((x*m+1073741824)/2147483648)) s by rw[Mf.out x hy.out];rfl);clear z0 z1;generalize R.held ((x*m+1073741824)/2147483648)=hh at *;by_cases hz:0<=s
  ·have hl:=ae (show R.sX hh s=hh by unfold R.sX;rw[ay hz])
   go_wp2;go_ret;exact⟨cH (by rw[he.out,hl.out]),rfl⟩
  ·obtain⟨p0,p1⟩:=ado (-s).toNat (by omega)
   by_cases hn:hh<0
   ·have hl:=ae (show R.sX hh s = -((2 ^ (-s).toNat-2*hh)/(2*2 ^ (-s).toNat)) by unfold R.sX;rw[ak hz,ay hn])
    go_wp2_with fail;refine(C0 (-s) w (by omega) (by omega)).mono ?_;rintro e w1⟨rfl,eM⟩;rw[eM];clear eM;generalize (2:Int) ^ (-s).toNat=P at *;go_wp2_with fail;refine(Gm (P-2*hh) (2*P) w (by omega) (by omega) (by omega) (by omega)).mono ?_;rintro e w1⟨rfl,eM⟩;rw[eM];clear eM;have b0:0<=(P-2*hh)/(2*P):=Int.ediv_nonneg (by omega) (by omega);have b1:(P-2*hh)/(2*P)<=P-2*hh:=Int.ediv_le_self _ (by omega);generalize (P-2*hh)/(2*P)=D at *;go_wp2;go_ret;exact⟨cH (by rw[he.out,hl.out]),rfl⟩
   ·have hl:=ae (show R.sX hh s=(2 ^ (-s).toNat+2*hh)/(2*2 ^ (-s).toNat) by unfold R.sX;rw[ak hz,ak hn])
    go_wp2_with fail;refine(C0 (-s) w (by omega) (by omega)).mono ?_;rintro e w1⟨rfl,eM⟩;rw[eM];clear eM;generalize (2:Int) ^ (-s).toNat=P at *;go_wp2_with fail;refine(Gm (P+2*hh) (2*P) w (by omega) (by omega) (by omega) (by omega)).mono ?_;rintro e w1⟨rfl,eM⟩;rw[eM];clear eM;go_wp2;go_ret;exact⟨cH (by rw[he.out,hl.out]),rfl⟩
theorem KC(L n s:Int)(same:Bool)(f:Nat)(p:Int)(h:L<=p):R.placesFrom L n s same f p=0:=by
 cases f with
 | zero=>rfl
 | succ f=>unfold R.placesFrom;rw[ak (by omega)]
theorem adp(L n s:Int)(same:Bool)(hs:1<=s):∀(f g:Nat) (p:Int),(L-p).toNat<=f->(L-p).toNat<=g->R.placesFrom L n s same f p=R.placesFrom L n s same g p
 | 0,g,p,h,_=>by rw[KC L n s same 0 p (by omega),KC L n s same g p (by omega)]
 | f+1,0,p,_,h=>by rw[KC L n s same (f+1) p (by omega),KC L n s same 0 p (by omega)]
 | f+1,g+1,p,h1,h2=>by
  unfold R.placesFrom;by_cases hp:p<L
  ·rw[ay hp,ay hp,adp L n s same hs f g (p+s) (by omega) (by omega)]
  ·rw[ak hp,ak hp]
theorem aqt(L n s:Int)(same:Bool)(hs:1<=s)(p:Int)(hp:p<L) :
  R.placesFrom L n s same (L-p).toNat p=(if (same||decide (p+n<=L))=true then 1 else 0)+R.placesFrom L n s same (L-(p+s)).toNat (p+s):=by
 obtain⟨f,hf⟩:∃f,(L-p).toNat=f+1:=⟨(L-p).toNat-1,by omega⟩;rw[hf];rw[R.placesFrom,ay hp,adp L n s same hs f (L-(p+s)).toNat (p+s) (by omega) (by omega)]
theorem adq(L n s:Int)(same:Bool):∀(f:Nat) (p:Int),0<=R.placesFrom L n s same f p/\R.placesFrom L n s same f p<=f
 | 0,p=>by simp[R.placesFrom]
 | f+1,p=>by
  have:=adq L n s same f (p+s);unfold R.placesFrom
  split
  ·split<;>omega
  ·omega
theorem aqu(L n s:Int)(same:Bool)(h:0<=L):0<=R.gG L n s same/\R.gG L n s same<=L:=by
 have:=adq L n s same L.toNat 0;unfold R.gG;omega
theorem ER(L n s:Int)(same:Bool)(w:World)(l0:0<=L)(l1:L<=100000)(n0:0<=n)(n1:n<=100000)(s0:1<=s)(s1:s<=100000) :
  Calls prog 113 #[.int .i64 L,.int .i64 n,.int .i64 s,.bool same] w fun e w'=>e=.returned (.int .i64 (R.gG L n s same))/\w'=w:=by
 have tF:R.gG L n s same=R.placesFrom L n s same (L-0).toNat 0:=by unfold R.gG;rw[Int.sub_zero]
 have Oc:=ae tF;clear tF;go_enter func113,ntmps113;go_wp2
 go_loop [9,10] (fun c i=>∃k p:Int,0<=p/\p<=200000/\0<=k/\k<=p/\c=.int .i64 k/\i=.int .i64 p/\Hid (k+R.placesFrom L n s same (L-p).toNat p=R.gG L n s same)) (fun _ i=>(L-intOf i).toNat)
 case atStart=>exact⟨0,0,by omega,by omega,by omega,by omega,rfl,rfl,by unfold Hid;rw[Oc.out];omega⟩
 case round=>
  obtain⟨k,p,p0,p1,k0,k1,rfl,rfl,HK⟩:=hrel;by_cases hp:p<L
  ·have fm:=ae (aqt L n s same s0 p hp)
   cases same with
   | true=>
    go_wp2
    go_round
    case rel=>exact⟨k+1,p+s,by omega,by omega,by omega,by omega,rfl,rfl,by unfold Hid;have e1:=HK.out;rw[fm.out] at e1;simp at e1;omega⟩
    case measure=>simp[intOf];omega
   | false=>
    by_cases hq:p+n<=L
    ·go_wp2
     go_round
     case rel=>exact⟨k+1,p+s,by omega,by omega,by omega,by omega,rfl,rfl,by unfold Hid;have e1:=HK.out;rw[fm.out] at e1;simp[hq] at e1;omega⟩
     case measure=>simp[intOf];omega
    ·have Hq:=ae hq
     go_wp2
     go_round
     case rel=>exact⟨k,p+s,by omega,by omega,by omega,by omega,rfl,rfl,by unfold Hid;have e1:=HK.out;rw[fm.out,ak (by simp;have:=Hq.out;omega)] at e1;omega⟩
     case measure=>simp[intOf];omega
  ·have He:=ae (show k=R.gG L n s same by have e1:=HK.out;rw[KC L n s same _ p (by omega)] at e1;omega)
   go_wp2;go_ret;exact⟨cH He.out,rfl⟩
theorem adr(L n s:Int)(same:Bool)(w:World)(l0:0<=L)(l1:L<=100000)(n0:0<=n)(n1:n<=100000)(s0:1<=s)(s1:s<=100000) :
  Calls prog 159 #[.int .i64 L,.int .i64 n,.int .i64 s,.bool same] w fun e w'=>e=.returned (.int .i64 (R.kM L n s same))/\w'=w:=by
 obtain⟨k0,k1⟩:=aqu L n s same l0;have hl:R.kM L n s same=if same=false\/(R.gG L n s same-1)*s+n-L<0 then 0 else ((R.gG L n s same-1)*s+n-L)/2:=rfl;have Hl:=ae hl;clear hl;go_enter func159,ntmps159;go_wp2_with fail;refine(ER L n s same w l0 l1 n0 n1 s0 s1).mono ?_;rintro e w1⟨rfl,eM⟩;rw[eM];clear eM;generalize R.gG L n s same=k at *;obtain⟨b0,b1⟩:=OT (X:=100000) (Q:=100000) (show -100000<=k-1 by omega) (show k-1<=100000 by omega) (show 0<=s by omega) s1
 cases same with
 | false=>
  go_wp2;go_ret;exact⟨cH (by rw[Hl.out];simp),rfl⟩
 | true=>
  by_cases hm:(k-1)*s+n-L<0
  ·have Hm:=ae hm
   go_wp2;go_ret;exact⟨cH (by rw[Hl.out,ay (.inr Hm.out)]),rfl⟩
  ·have Hm:=ae hm
   go_wp2;go_ret;exact⟨cH (by rw[Hl.out,ak (by have:=Hm.out;simp;omega)]),rfl⟩
def S9(l:List UInt8):ByteArray:=⟨l.toArray⟩
theorem Gn(a:List UInt8):(S9 a).size=a.length:=by
 unfold S9;simp[ByteArray.size]
theorem OU(l:List UInt8)(i:Nat)(h:i<(S9 l).size)(b:UInt8)(hb:l[i]?=some b):(S9 l)[i]=b:=by
 have hl:i<l.length:=by rw[Gn] at h;exact h
 have e:(S9 l)[i]=l[i]:=rfl;rw[aS hl] at hb;exact e.trans (Option.some.inj hb)
theorem aqv{s:ByteArray}{l:List UInt8}(h:s.data.toList=l):s=S9 l:=by
 subst h
 rfl
theorem ads(l:List UInt8)(a b:Nat):(S9 l).extract a b=S9 ((l.drop a).take (b-a)):=by
 apply aqv
 rw[Lib.extract_data]
 rfl
theorem aqw:∀(l:List UInt8) (k:Nat),l.length<=k->k<=4->0<=R.val l/\R.val l<=4294967295/\(l.length<=3->R.val l<=16777215)/\(l.length<=2->R.val l<=65535)/\(l.length<=1->R.val l<=255)
 | [],k,_,_=>by simp[R.val]
 | [a],k,_,_=>by have:=a.toNat_lt;simp[R.val];omega
 | [a,b],k,_,_=>by have:=a.toNat_lt;have:=b.toNat_lt;simp[R.val];omega
 | [a,b,c],k,_,_=>by have:=a.toNat_lt;have:=b.toNat_lt;have:=c.toNat_lt;simp[R.val];omega
 | [a,b,c,d],k,_,_=>by have:=a.toNat_lt;have:=b.toNat_lt;have:=c.toNat_lt;have:=d.toNat_lt;simp[R.val];omega
 | a::b::c::d::e::r,k,h,hk=>by simp at h;omega
theorem aqx(c:UInt8):wrap64 (c.toNat:Int)=(c.toNat:Int):=by
 have:=c.toNat_lt;unfold wrap64;omega
theorem aqy(x:Int)(h0:-9223372036854775808<=x)(h1:x<=9223372036854775807):wrap64 x=x:=by
 unfold wrap64;omega
theorem aqz{l:List UInt8}{n:Nat}{b:UInt8}(hb:l[n-1]?=some b)(h:128<=(b.toNat:Int)):R.sY l n true=true:=by
 unfold R.sY;rw[oa,hb];simp;omega
theorem aqA{l:List UInt8}{n:Nat}{b:UInt8}(hb:l[n-1]?=some b)(h:¬128<=(b.toNat:Int)):R.sY l n true=false:=by
 unfold R.sY;rw[oa,hb];simp;omega
theorem aqB{l:List UInt8}{n j:Nat}{b:UInt8}(hb:l[j]?=some b)(hj:j<n):(l.take n).drop j=b::(l.take n).drop (j+1):=by
 have hl:j<(l.take n).length:=by
  have:j<l.length:=by
   rcases cE j l.length with h' | h'
   ·exact h'
   ·simp[db h'] at hb
  simp;omega
 rw[List.drop_eq_getElem_cons hl]
 congr 1
 have e:(l.take n)[j]?=some b:=by rw[List.getElem?_take,ay hj];exact hb
 rw[aS hl] at e;exact Option.some.inj e
theorem yc(l:List UInt8)(n:Nat)(cX:Bool)(w:World)(n0:1<=n)(n1:n<=4)(hl:l.length<=1000000) :
  Calls prog 66 #[.string (S9 l),.int .i64 n,.bool cX] w fun e w'=>e=.returned (.tuple #[.int .i64 (R.take l n cX).1,.string (S9 (R.take l n cX).2.1),.bool (R.take l n cX).2.2])/\w.grownBy w' none:=by
 have hs:=Gn l;by_cases iX:l.length<n
 ·have ht:=ae (show R.take l n cX=(0,l,false) by unfold R.take;rw[ay iX])
  go_enter func66,ntmps66;go_wp2
  go_ret3
  exact⟨by rw[ht.out];rfl,fZ _ _⟩
 ·have ht:=ae (show R.take l n cX=(if R.sY l n cX=true then R.val (l.take n)-256 ^ n else R.val (l.take n),l.drop n,true) by unfold R.take;rw[ak iX])
  go_enter func66,ntmps66;go_wp2
  go_loop [9,10] (fun v i=>∃(k:Nat) (q:Int),k<=n/\i=.int .i64 ((k:Int)-1)/\v=.int .i64 q/\Hid (q=R.val ((l.take n).drop k))/\0<=q/\(1<=k->q<=16777215)/\q<=4294967295) (fun _ i=>(intOf i+1).toNat)
  case atStart=>exact⟨n,0,bj _,rfl,rfl,by unfold Hid;rw[List.drop_eq_nil_of_le (by simp;omega)];rfl,by omega,by omega,by omega⟩
  case round=>
   obtain⟨k,q,hk,rfl,rfl,HQ,q0,q1,q2⟩:=hrel
   cases k with
   | succ j=>
    have hj:j<l.length:=by omega
    obtain⟨b,hb⟩:∃b,l[j]?=some b:=⟨_,aS hj⟩;have hj2:j<(S9 l).size:=by rw[hs];exact hj
    have Hb:=ae (OU l j hj2 b hb);have dh:=b.toNat_lt;have Hd:=ae (aqB hb (show j<n by omega));have hq1:q<=16777215:=q1 (by omega);have HV:=ae (show 256*q+(b.toNat:Int)=R.val ((l.take n).drop j) by rw[Hd.out,R.val,<-HQ.out];omega);have Bg:=aqw ((l.take n).drop j) 4 (by simp;omega) (by omega);clear q1 hb;have ej:(((j+1:Nat):Int)-1)=(j:Int):=by omega
    rw[ej];clear ej;go_wp2
    go_round
    case rel=>
     have eb:wrap64 ((S9 l)[j].toNat:Int)=(b.toNat:Int):=by rw[aqx,Hb.out]
     refine⟨j,256*q+(b.toNat:Int),by omega,rfl,by rw[eb,aqy _ (by omega) (by omega)],HV.out,by omega,?_,?_⟩
     ·intro hj1;rw[HV.out];exact Bg.2.2.1 (by simp;omega)
     ·rw[HV.out];exact Bg.2.1
    case measure=>simp[intOf]
   | zero=>
    have TQ:Hid (q=R.val (l.take n)):=by unfold Hid;rw[HQ.out,List.drop_zero]
    have hx:(n:Int)<=(l.length:Int):=by omega
    have HD:=ae (show(S9 l).extract n l.length=S9 (l.drop n) by rw[ads,BF (by simp)]);obtain⟨b,hb⟩:∃b,l[n-1]?=some b:=⟨_,aS (by omega)⟩;have iq:n-1<(S9 l).size:=by rw[hs];omega
    have Hb:=ae (OU l (n-1) iq b hb);have C6:=ae hb;clear HQ hb q1 hk
    cases cX with
    | false=>
     go_wp2;go_quiet (fail);go_wp2
     go_ret3
     refine⟨?_,bE _ _ _⟩;rw[ht.out,ak (by simp[R.sY]),<-TQ.out,<-HD.out]
     rfl
    | true=>
     by_cases adt:128<=((S9 l)[n-1].toNat:Int)
     ·have Hs:=ae (aqz C6.out (by have e:=adt;rw[Hb.out] at e;exact e))
      go_wp2
      go_loop [11,12] (fun v i=>∃(k:Nat) (p:Int),k<=n/\i=.int .i64 k/\v=.int .i64 p/\Hid (p=256 ^ k)/\1<=p/\p<=4294967296) (fun _ i=>n-(intOf i).toNat)
      case atStart=>exact⟨0,1,bK _,rfl,rfl,by simp[Hid],by omega,by omega⟩
      case round=>
       obtain⟨k,p,hk,rfl,rfl,HP,p0,p1⟩:=hrel;by_cases aJ:k<n
       ·have gj:256*p<=4294967296:=by
         have e:256*p=256 ^ (k+1):=by rw[HP.out,Int.pow_succ];omega
         rw[e];rcases(show k=0\/k=1\/k=2\/k=3 from by omega) with rfl|rfl|rfl|rfl<;>decide
        go_wp2
        go_round
        case rel=>exact⟨k+1,256*p,by omega,by go_num,rfl,by unfold Hid;rw[HP.out,Int.pow_succ];omega,by omega,gj⟩
        case measure=>simp[intOf];omega
       ·obtain rfl:k=n:=by omega
        go_wp2;go_quiet (fail);go_wp2
        go_ret3
        refine⟨?_,bE _ _ _⟩;rw[ht.out,ay Hs.out,<-TQ.out,<-HD.out,<-HP.out]
        rfl
     ·have Hs:=ae (aqA C6.out (by have e:=adt;rw[Hb.out] at e;exact e))
      go_wp2;go_quiet (fail);go_wp2
      go_ret3
      refine⟨?_,bE _ _ _⟩;rw[ht.out,ak (by rw[Hs.out];simp),<-TQ.out,<-HD.out]
      rfl
theorem wK(l:List UInt8)(n:Nat)(cX:Bool):(R.take l n cX).2.1.length<=l.length/\((R.take l n cX).2.2=true->(R.take l n cX).2.1.length=l.length-n/\n<=l.length):=by
 unfold R.take
 split
 ·exact⟨bj _,fun h=>by simp at h⟩
 ·exact⟨by simp,fun _=>by simp;omega⟩
theorem Gp(l:List UInt8)(n:Nat)(cX:Bool):∀k xs r,R.list l n cX k=some (xs,r)->xs.length=k/\r.length+k*n=l.length
 | 0,xs,r,h=>by simp[R.list] at h;obtain⟨rfl,rfl⟩:=h;simp
 | k+1,xs,r,h=>by
  unfold R.list at h
  cases hk:R.list l n cX k with
  | none=>rw[hk] at h;simp at h
  | some p=>
   obtain⟨ys,q⟩:=p;rw[hk] at h;simp only at h;obtain⟨h1,h2⟩:=Gp l n cX k ys q hk;by_cases ht:(R.take q n cX).2.2=true
   ·rw[ay ht] at h
    have hs:=(wK q n cX).2 ht;simp only[kj,Prod.mk.injEq] at h;obtain⟨rfl,rfl⟩:=h;refine⟨by simp[h1],?_⟩;rw[hs.1,Nat.add_mul];omega
   ·rw[ak ht] at h;simp at h
theorem aqD(l:List UInt8)(n:Nat)(cX:Bool)(k j:Nat)(h:R.list l n cX k=none):R.list l n cX (k+j)=none:=by
 induction j with
 | zero=>exact h
 | succ j ih=>rw[<-Nat.add_assoc,R.list,ih]
theorem OV{w:World}{base:Nat}{v:Value}{xs:List Int}(h:aZ w base v xs):∃ao c,v=.slice ao xs.length c:=by
 rcases h.2 with⟨hv,h0⟩|⟨g,cap,dY,hv,_⟩
 ·exact⟨none,0,by rw[hv,h0]⟩
 ·exact⟨_,_,hv⟩
theorem KD(l:List UInt8)(k n:Nat)(cX:Bool)(w:World)(n0:1<=n)(n1:n<=4)(hl:l.length<=1000000)(rN:k<=16777216) :
  Calls prog 69 #[.string (S9 l),.int .i64 k,.int .i64 n,.bool cX] w fun e w'=>w.grownBy w' none /\
   ((∃r,R.list l n cX k=none/\r.length<=l.length/\e=.returned (.tuple #[.slice none 0 0,.string (S9 r),.bool false])) \/
    ∃a c xs r,Hid (R.list l n cX k=some (xs,r))/\e=.returned (.tuple #[.slice a xs.length c,.string (S9 r),.bool true])/\aZ w' w.heap.size (.slice a xs.length c) xs):=by
 obtain⟨i0,hi,cP,cQ,cZ⟩:=info_parts Tryz.oO;go_enter func69,ntmps69;go_wp2;go_loopw[0,11,12] (fun s v i wr=>∃(j:Nat) (xs:List Int) (r:List UInt8),j<=k/\i=.int .i64 j/\s=.string (S9 r)/\Hid (R.list l n cX j=some (xs,r))/\aZ wr w.heap.size v xs/\w.grownBy wr none) (fun _ _ i _=>k-(intOf i).toNat)
 case atStart=>exact⟨0,[],l,bK _,rfl,rfl,rfl,aZ.nil _ _,fZ _ _⟩
 case round=>
  obtain⟨j,xs,r,hj,rfl,rfl,HL,hI,aF⟩:=hrel;obtain⟨e1,e2⟩:=Gp l n cX j xs r HL.out;have gJ:r.length<=l.length:=by omega
  have rz:j<=l.length:=by
   have:j*1<=j*n:=Nat.mul_le_mul_left j n0;omega
  have uH:xs.length<=l.length:=by omega
  have Ge:=ae e1;clear e1 e2;by_cases aJ:j<k
  ·have xp:R.list l n cX (j+1)=if (R.take r n cX).2.2=true then some (xs++[(R.take r n cX).1],(R.take r n cX).2.1) else none:=by rw[R.list,HL.out]
   have Hs:=ae xp;clear xp;have ya:=(wK r n cX).1;go_wp2_with fail;refine(yc r n cX _ n0 n1 (by omega)).mono ?_;rintro e w2⟨rfl,aM⟩;have G2:=aC aF aM;have zH:=hI.Z aM;have ju:=G2.size;clear aF aM hI;generalize (R.take r n cX).1=x at *;generalize (R.take r n cX).2.1=r2 at *
   cases nQ:(R.take r n cX).2.2 with
   | false=>
    have Hn:=ae (show R.list l n cX k=none by
     obtain⟨d,rfl⟩:=Nat.exists_eq_add_of_le (show j+1<=k by omega);exact aqD l n cX (j+1) d (by rw[Hs.out,ak (by rw[nQ];simp)]))
    clear nQ zH;go_wp2
    go_ret3
    exact⟨G2,.inl ⟨r,Hn.out,gJ,rfl⟩⟩
   | true=>
    have q8:=ae (show R.list l n cX (j+1)=some (xs++[x],r2) by rw[Hs.out,ay nQ]);clear nQ;go_wp2_with (at_builtin;refine nD _ rfl _ _ 33 rfl w.heap.size 3 i0 (.int .i64 0) 1 8 underlying33 hi cP cQ cZ rfl (by decide) _ _ _ rfl (lB zH _) ⟨w2.heap.size,0,none⟩ 1 1 [.int .i64 x] rfl rfl ?c1 ?c2 ?c3 ?c4 ?c5 ?_)
    case c1=>exact kb w2 3 #[.int .i64 x]
    case c2=>intro u hu;simp at hu;subst hu;rfl
    case c3=>unfold maxLen;omega
    case c4=>omega
    case c5=>simp;omega
    intro v' w3 dC cR _;have bq:w2.grownBy w3 u11.ownBlock:=aC (aQ _ _ _) cR;have qn:=mJ zH;have G3:w.grownBy w3 none:=l8 G2 bq qn;have lh:aZ w3 w.heap.size v' (xs++[x]):=by unfold aZ;simpa using dC
    clear dC cR bq qn zH G2;go_wp2;go_roundw
    case rel=>exact⟨j+1,xs++[x],r2,by omega,by go_num,rfl,q8,lh,G3⟩
    case measure=>simp[intOf];omega
  ·obtain rfl:j=k:=by omega
   obtain⟨a,c,hv⟩:=OV hI;rw[hv] at hI ⊢;clear hv;go_wp2
   go_ret3
   exact⟨aF,.inr ⟨a,c,xs,r,HL,rfl,hI⟩⟩
namespace R
structure Op where
 af:Int
 ins:List Int
 out:Int
 cO:List Int
structure bX where
 ts:List M.Tn
 ag:List Op
 aK:List Int
abbrev fW(α:Type):=Option (α×List UInt8)
def tk(n:Nat)(cX:Bool)(l:List UInt8):fW Int:=if (take l n cX).2.2=true then some ((take l n cX).1,(take l n cX).2.1) else none
def nx{α β:Type}(f:List UInt8->fW α)(k:α->List UInt8->fW β)(l:List UInt8):fW β:=
 match f l with
 | some (x,r)=>k x r
 | none=>none
def ok{α:Type}(x:α)(l:List UInt8):fW α:=some (x,l)
def many{α:Type}(f:List UInt8->fW α):Nat->List UInt8->fW (List α)
 | 0,l=>some ([],l)
 | k+1,l=>nx (many f k) (fun xs=>nx f fun x=>ok (xs++[x])) l
theorem ES(n:Nat)(cX:Bool)(l:List UInt8):∀k,list l n cX k=many (tk n cX) k l
 | 0=>rfl
 | k+1=>by
  unfold list many nx;rw[ES n cX l k]
  cases many (tk n cX) k l with
  | none=>rfl
  | some p=>
   obtain⟨xs,r⟩:=p
   dsimp only
   unfold tk
   split<;>rfl
def fH:List UInt8->fW M.Tn:=
 nx (tk 1 false) fun k=>nx (tk 1 false) fun h=>nx (tk 1 false) fun w=>nx (tk 1 false) fun c l=>
  if 3<k then none else nx (tk 1 true) (fun z l=>
   if k=0\/k=3 then some (⟨k,h,w,c,z,[]⟩,l) else nx (many (tk (if k=2 then 4 else 1) true) (h*w*c).toNat) (fun d=>ok ⟨k,h,w,c,z,d⟩) l) l
def bT(k:Int):Option (Nat×List Char):=
 if k=1\/k=2 then some (3,[(Char.ofNat 117),(Char.ofNat 98),(Char.ofNat 119),(Char.ofNat 115),(Char.ofNat 115),(Char.ofNat 115)])
 else if k=3 then some (3,[(Char.ofNat 119),(Char.ofNat 115),(Char.ofNat 115),(Char.ofNat 115)])
 else if k=4 then some (2,[(Char.ofNat 119),(Char.ofNat 115),(Char.ofNat 119),(Char.ofNat 115),(Char.ofNat 119),(Char.ofNat 115),(Char.ofNat 115),(Char.ofNat 115)])
 else if k=5\/k=6 then some (1,[(Char.ofNat 117),(Char.ofNat 117),(Char.ofNat 115),(Char.ofNat 115)])
 else if k=7 then some (1,[(Char.ofNat 115),(Char.ofNat 115)])
 else if k=8 then some (1,[(Char.ofNat 117),(Char.ofNat 117),(Char.ofNat 117),(Char.ofNat 117)])
 else if k=9 then some (1,[])
 else if k=10 then some (2,[])
 else none
def cO(c:Char):List UInt8->fW Int:=
 nx (tk (if c=(Char.ofNat 119) then 4 else 1) (c==(Char.ofNat 115)||c==(Char.ofNat 119))) fun v l=>if c=(Char.ofNat 98)/\¬v<2 then none else some (v,l)
def aW:List Char->List UInt8->fW (List Int)
 | [],l=>some ([],l)
 | c::cs,l=>nx (cO c) (fun v=>nx (aW cs) fun vs=>ok (v::vs)) l
def op:List UInt8->fW Op:=
 nx (tk 1 false) fun k l=>match bT k with
  | none=>none
  | some (n,Gq)=>nx (many (tk 1 false) n) (fun ins=>nx (tk 1 false) fun out=>nx (aW Gq) fun v=>ok ⟨k,ins,out,v⟩) l
def fh(l:List UInt8):Option bX:=
 if l.length<4\/l.take 4≠M.DD then none else
  match nx (tk 1 false) (fun n=>nx (many fH n.toNat) fun ts=>nx (tk 1 false) fun n=>nx (many op n.toNat) fun os=>nx (tk 1 false) fun n=>nx (many (tk 1 false) n.toNat) fun us=>ok (⟨ts,os,us⟩:bX)) (l.drop 4) with
  | some (g,[])=>some g
  | _=>none
structure aY{α β:Type}(f:ByteArray->M.RS->α×M.RS)(g:List UInt8->fW β)(φ:α->β):Prop where
 hZ:∀s r,r.gg=true->(f s r).2.gg=true
 ok:∀s p,p<=s.size->(f s ⟨p,false⟩).2.gg=false->(f s ⟨p,false⟩).2.bG<=s.size/\g (s.data.toList.drop p)=some (φ (f s ⟨p,false⟩).1,s.data.toList.drop (f s ⟨p,false⟩).2.bG)
 no:∀s p,p<=s.size->(f s ⟨p,false⟩).2.gg=true->g (s.data.toList.drop p)=none
theorem aY.Bh{α β α' β':Type}{f:ByteArray->M.RS->α×M.RS}{g:List UInt8->fW α'}{φ:α->α'}{k:α->ByteArray->M.RS->β×M.RS}{h:α'->List UInt8->fW β'}{ψ:β->β'}{P:α->Prop}
  (hf:aY f g φ) (hP:∀s r,P (f s r).1) (hk:∀x,P x->aY (k x) (h (φ x)) ψ):aY (sq f k) (nx g h) ψ:=by
 refine⟨fun s r hr=>(hk _ (hP s r)).hZ s _ (hf.hZ s r hr),fun s p hp hb=>?_,fun s p hp hb=>?_⟩
 ·have K:=hk _ (hP s ⟨p,false⟩)
  unfold sq at hb ⊢;have h1:(f s ⟨p,false⟩).2.gg=false:=by
   cases e:(f s ⟨p,false⟩).2.gg with
   | false=>rfl
   | true=>rw[K.hZ s _ e] at hb;exact aN hb (by decide)
  obtain⟨eW,hg⟩:=hf.ok s p hp h1;have e:(f s ⟨p,false⟩).2=⟨(f s ⟨p,false⟩).2.bG,false⟩:=by
   cases hh:(f s ⟨p,false⟩).2 with
   | mk a b=>rw[hh] at h1;simp only at h1;rw[h1]
  rw[e] at hb ⊢;obtain⟨gj,aM⟩:=K.ok s _ eW hb;refine⟨gj,?_⟩;unfold nx;rw[hg];exact aM
 ·have K:=hk _ (hP s ⟨p,false⟩)
  unfold sq at hb;unfold nx
  cases e:(f s ⟨p,false⟩).2.gg with
  | true=>rw[hf.no s p hp e]
  | false=>
   obtain⟨eW,hg⟩:=hf.ok s p hp e;have e2:(f s ⟨p,false⟩).2=⟨(f s ⟨p,false⟩).2.bG,false⟩:=by
    cases hh:(f s ⟨p,false⟩).2 with
    | mk a b=>rw[hh] at e;simp only at e;rw[e]
   rw[e2] at hb;rw[hg];exact K.no s _ eW hb
theorem aY.seq{α β α' β':Type}{f:ByteArray->M.RS->α×M.RS}{g:List UInt8->fW α'}{φ:α->α'}{k:α->ByteArray->M.RS->β×M.RS}{h:α'->List UInt8->fW β'}{ψ:β->β'}
  (hf:aY f g φ) (hk:∀x,aY (k x) (h (φ x)) ψ):aY (sq f k) (nx g h) ψ:=hf.Bh (P:=fun _=>True) (fun _ _=>trivial) (fun x _=>hk x)
theorem aY.pure{α β:Type}(x:α)(φ:α->β):aY (fun _ r=>(x,r)) (R.ok (φ x)) φ:=
 ⟨fun _ _ h=>h,fun _ _ hp _=>⟨hp,rfl⟩,fun _ _ _ h=>aN h (by simp)⟩
theorem aY.fail{α β:Type}(x:α)(φ:α->β):aY (fun _ r=>(x,⟨r.bG,true⟩)) (fun _=>none) φ:=
 ⟨fun _ _ _=>rfl,fun _ _ _ h=>aN h (by simp),fun _ _ _ _=>rfl⟩
theorem TR{s:ByteArray}{p:Nat}(h:p<s.size):s.data.toList.drop p=s.data.toList.getD p 0::s.data.toList.drop (p+1):=by
 have hl:p<s.data.toList.length:=by rw[Array.length_toList];exact h
 rw[List.drop_eq_getElem_cons hl,List.getD,aS hl]
 rfl
theorem TS{s:ByteArray}{p:Nat}(h:s.size<=p):s.data.toList.drop p=[]:=by
 apply List.drop_eq_nil_of_le;rw[Array.length_toList];exact h
theorem aY.plain:aY M.plain (tk 1 false) id:=by
 refine⟨fun s r hr=>?_,fun s p hp hb=>?_,fun s p hp hb=>?_⟩
 ·unfold M.plain;rw[hr];rfl
 ·unfold M.plain at hb ⊢
  by_cases c:s.size<=p
  ·rw[ay (by simp[c])] at hb;exact aN hb (by simp)
  ·rw[ak (by simp;omega)]
   refine⟨by dsimp only;omega,?_⟩;rw[TR (by omega)];unfold tk take sY;simp[val,M.bt]
 ·unfold M.plain at hb
  by_cases c:s.size<=p
  ·rw[TS c];rfl
  ·rw[ak (by simp;omega)] at hb;exact aN hb (by simp)
theorem aY.dK:aY M.dK (tk 1 true) id:=by
 refine⟨fun s r hr=>?_,fun s p hp hb=>?_,fun s p hp hb=>?_⟩
 ·unfold M.dK M.plain;rw[hr];rfl
 ·unfold M.dK M.plain at hb ⊢
  by_cases c:s.size<=p
  ·rw[ay (by simp[c])] at hb;exact aN hb (by simp)
  ·rw[ak (by simp;omega)]
   refine⟨by dsimp only;omega,?_⟩;rw[TR (by omega)];unfold tk take sY;have e:(if 127<M.bt s p then M.bt s p-256 else M.bt s p)=if 128<=(s.data.toList.getD p 0).toNat then ((s.data.toList.getD p 0).toNat:Int)-256 else ((s.data.toList.getD p 0).toNat:Int):=by
    unfold M.bt;split<;>split<;>omega
   simp only[e];simp[val]
 ·unfold M.dK M.plain at hb
  by_cases c:s.size<=p
  ·rw[TS c];rfl
  ·rw[ak (by simp;omega)] at hb;exact aN hb (by simp)
theorem tk4(l:List UInt8):tk 4 true l=nx (tk 1 false) (fun a=>nx (tk 1 false) fun b=>nx (tk 1 false) fun c=>nx (tk 1 true) fun d=>R.ok (d*16777216+c*65536+b*256+a)) l:=by
 match l with
 | []=>rfl
 | [a]=>rfl
 | [a,b]=>rfl
 | [a,b,c]=>rfl
 | a::b::c::d::r=>
  have e1:tk 4 true (a::b::c::d::r)=some (if 128<=d.toNat then (a.toNat:Int)+256*(b.toNat+256*(c.toNat+256*(d.toNat+256*0)))-256 ^ 4 else (a.toNat:Int)+256*(b.toNat+256*(c.toNat+256*(d.toNat+256*0))),r):=by
   unfold tk take sY;rw[ak (show ¬(a::b::c::d::r).length<4 by simp only[pN];omega)];simp[val]
  have e2:∀(x:UInt8) t,tk 1 false (x::t)=some ((x.toNat:Int),t):=by intro x t;unfold tk take sY;simp[val]
  have e3:tk 1 true (d::r)=some (if 128<=d.toNat then (d.toNat:Int)-256 else d.toNat,r):=by unfold tk take sY;simp[val]
  rw[e1];unfold nx;simp only[e2,e3];unfold R.ok
  congr 2
  split<;>omega
theorem aY.kX:aY M.kX (tk 4 true) id:=by
 have e:tk 4 true=nx (tk 1 false) (fun a=>nx (tk 1 false) fun b=>nx (tk 1 false) fun c=>nx (tk 1 true) fun d=>R.ok (d*16777216+c*65536+b*256+a)):=funext tk4;rw[e];have H:aY (sq M.plain fun a=>sq M.plain fun b=>sq M.plain fun c=>sq M.dK fun d _ r=>(d*16777216+c*65536+b*256+a,r))
   (nx (tk 1 false) (fun a=>nx (tk 1 false) fun b=>nx (tk 1 false) fun c=>nx (tk 1 true) fun d=>R.ok (d*16777216+c*65536+b*256+a))) id:=
  aY.plain.seq fun a=>aY.plain.seq fun b=>aY.plain.seq fun c=>aY.dK.seq fun d=>aY.pure _ id
 exact H
theorem aY.rep{α β:Type}{f:ByteArray->M.RS->α×M.RS}{g:List UInt8->fW β}{φ:α->β}(h:aY f g φ):∀n,aY (fun s=>M.rep (f s) n) (many g n) (List.map φ)
 | 0=>aY.pure [] (List.map φ)
 | n+1=>by
  have H:aY (sq (fun s=>M.rep (f s) n) fun l=>sq f fun x _ r=>(l++[x],r)) (nx (many g n) fun xs=>nx g fun x=>R.ok (xs++[x])) (List.map φ):=
   (aY.rep h n).seq fun l=>h.seq fun x=>by
    have:=aY.pure (l++[x]) (List.map φ)
    rwa [lK] at this
  exact H
theorem aY.eZ{α β:Type}{f:ByteArray->M.RS->α×M.RS}{g:List UInt8->fW β}{φ:α->β}(h:aY f g φ):∀n,aY (fun s=>M.eZ (f s) n) (many g n) (List.map φ)
 | 0=>aY.pure [] (List.map φ)
 | n+1=>by
  have H:aY (sq (fun s=>M.eZ (f s) n) fun l s r=>if r.gg=true then (l,r) else (l++[(f s r).1],(f s r).2)) (nx (many g n) fun xs=>nx g fun x=>R.ok (xs++[x])) (List.map φ):=by
   refine(aY.eZ h n).seq fun l=>?_;have K:aY (sq f fun x _ r=>(l++[x],r)) (nx g fun x=>R.ok (List.map φ l++[x])) (List.map φ):=h.seq fun x=>by
    have:=aY.pure (l++[x]) (List.map φ)
    rwa [lK] at this
   refine⟨fun s r hr=>by rw[ay hr];exact hr,fun s p hp hb=>?_,fun s p hp hb=>?_⟩
   ·exact K.ok s p hp hb
   ·exact K.no s p hp hb
  exact H
theorem OW{α:Type}{f:List UInt8->fW α}{n:Nat}(h:∀l x r,f l=some (x,r)->r.length+n=l.length):∀k l xs r,many f k l=some (xs,r)->r.length+k*n=l.length
 | 0,l,xs,r,e=>by simp[many] at e;rw[e.2];simp
 | k+1,l,xs,r,e=>by
  unfold many nx at e
  cases hk:many f k l with
  | none=>rw[hk] at e;simp at e
  | some p=>
   obtain⟨ys,q⟩:=p;have h1:=OW h k l ys q hk;rw[hk] at e
   dsimp only at e
   cases hx:f q with
   | none=>rw[hx] at e;simp at e
   | some p2=>
    obtain⟨x,t⟩:=p2;have h2:=h q x t hx;rw[hx] at e;simp[R.ok] at e;rw[<-e.2,Nat.add_mul];omega
theorem TT{n:Nat}{cX:Bool}(l:List UInt8)(x:Int)(r:List UInt8)(h:tk n cX l=some (x,r)):r.length+n=l.length:=by
 unfold tk at h;unfold take at h;by_cases c:l.length<n
 ·rw[ay c] at h;simp at h
 ·rw[ak c] at h
  simp at h;rw[<-h.2];simp;omega
theorem aY.df{α:Type}{f:ByteArray->M.RS->List α×M.RS}{g:List UInt8->fW (List α)}(n:Int)(h:aY f g id)(hl:∀l x r,g l=some (x,r)->n<=l.length) :
  aY (fun s r=>if (M.df s n r).1=true then f s (M.df s n r).2 else ([],(M.df s n r).2)) g id:=by
 refine⟨fun s r hr=>?_,fun s p hp hb=>?_,fun s p hp hb=>?_⟩
 ·unfold M.df;split<;>simp only[hr,Bool.not_true,Bool.false_eq_true,if_false]
 ·unfold M.df at hb ⊢
  by_cases c:(s.size:Int)-p<n
  ·rw[ay c] at hb;simp at hb
  ·rw[ak c] at hb ⊢
   exact h.ok s p hp hb
 ·unfold M.df at hb
  by_cases c:(s.size:Int)-p<n
  ·cases hg:g (s.data.toList.drop p) with
   | none=>rfl
   | some q=>
    have:=hl _ q.1 q.2 hg;rw[List.length_drop,Array.length_toList] at this;have e:s.data.size=s.size:=rfl;omega
  ·rw[ak c] at hb
   exact h.no s p hp hb
theorem aY.cells(n:Int)(hn:0<=n):aY (fun s=>M.cells s n) (many (tk 1 true) n.toNat) id:=by
 have h:=aY.rep aY.dK n.toNat;rw[show List.map (id:Int->Int)=id from funext fun l=>List.map_id l] at h;exact aY.df n h fun l x r e=>by have:=OW (n:=1) (fun l x r=>TT l x r) _ _ _ _ e;omega
theorem aY.sL(n:Int)(hn:0<=n):aY (fun s=>M.sL s n) (many (tk 4 true) n.toNat) id:=by
 have h:=aY.rep aY.kX n.toNat;rw[show List.map (id:Int->Int)=id from funext fun l=>List.map_id l] at h;exact aY.df (4*n) h fun l x r e=>by have:=OW (n:=4) (fun l x r=>TT l x r) _ _ _ _ e;omega
theorem wL{α β γ:Type}(f:List UInt8->fW α)(g:α->List UInt8->fW β)(h:β->List UInt8->fW γ):nx (nx f g) h=nx f fun x=>nx (g x) h:=by
 funext l
 unfold nx
 cases f l<;>rfl
theorem C7(s:ByteArray)(r:M.RS):0<=(M.plain s r).1:=by
 unfold M.plain
 split
 ·exact Int.le_refl _
 ·exact(M.Xm _ _).1
theorem aY.adu{α β:Type}{f:ByteArray->M.RS->α×M.RS}(φ:α->β)(h:∀s r,r.gg=true->(f s r).2.gg=true):aY (fun s r=>f s ⟨r.bG,true⟩) (fun _=>none) φ:=
 ⟨fun s r _=>h s _ rfl,fun s p _ hb=>by rw[h s _ rfl] at hb;exact aN hb (by decide),fun _ _ _ _=>rfl⟩
theorem aY.fH:aY M.fH R.fH id:=by
 have e:M.fH=sq M.plain fun k s r=>(sq M.plain fun h=>sq M.plain fun w=>sq M.plain fun c=>sq M.dK fun z=>
   sq (fun s r=>if (if (decide (k<0)||decide (3<k))=true then 0 else k)=1 then M.cells s (h*w*c) r else if (if (decide (k<0)||decide (3<k))=true then 0 else k)=2 then M.sL s (h*w*c) r else ([],r)) fun d _ r=>
    ((⟨if (decide (k<0)||decide (3<k))=true then 0 else k,h,w,c,z,d⟩:M.Tn),r)) s (if (decide (k<0)||decide (3<k))=true then ⟨r.bG,true⟩ else r):=by
  funext s r
  unfold M.fH M.ji sq
  dsimp only
  by_cases c:(decide ((M.plain s r).1<0)||decide (3<(M.plain s r).1))=true
  ·simp only[ay c]
  ·simp only[ak c]
 rw[e];unfold R.fH;refine aY.plain.Bh (P:=fun k=>0<=k) C7 fun k hk=>?_;by_cases c:(decide (k<0)||decide (3<k))=true
 ·simp only[ay c]
  have c3:3<k:=by simp at c;omega
  have L:=aY.adu (f:=sq M.plain fun h=>sq M.plain fun w=>sq M.plain fun c=>sq M.dK fun z=>
   sq (fun s r=>if (0:Int)=1 then M.cells s (h*w*c) r else if (0:Int)=2 then M.sL s (h*w*c) r else ([],r)) fun d _ r=>((⟨0,h,w,c,z,d⟩:M.Tn),r)) (id:M.Tn->M.Tn) (fun s r hr=>
    aY.dK.hZ s _ (aY.plain.hZ s _ (aY.plain.hZ s _ (aY.plain.hZ s r hr))))
  have e2:(nx (tk 1 false) fun h=>nx (tk 1 false) fun w=>nx (tk 1 false) fun c l=>
    if 3<(id k:Int) then none else nx (tk 1 true) (fun z l=>if id k=0\/id k=3 then some ((⟨id k,h,w,c,z,[]⟩:M.Tn),l) else nx (many (tk (if id k=2 then 4 else 1) true) (h*w*c).toNat) (fun d=>R.ok ⟨id k,h,w,c,z,d⟩) l) l)=fun _=>none:=by
   funext l
   have e3:¬¬3<(id k:Int):=by simp;exact c3
   unfold nx
   cases tk 1 false l with
   | none=>rfl
   | some p=>
    obtain⟨x,q⟩:=p
    dsimp only
    cases tk 1 false q with
    | none=>rfl
    | some p2=>
     obtain⟨y,q2⟩:=p2
     dsimp only
     cases tk 1 false q2 with
     | none=>rfl
     | some p3=>dsimp only;rw[ay (Classical.not_not.mp e3)]
  rw[e2];exact L
 ·simp only[ak c]
  have c3:¬3<(id k:Int):=by simp at c;simp;omega
  simp only[ak c3];refine aY.plain.Bh (P:=fun h=>0<=h) C7 fun h hh=>aY.plain.Bh (P:=fun h=>0<=h) C7 fun w hw=>aY.plain.Bh (P:=fun h=>0<=h) C7 fun c' bF=>aY.dK.seq fun z=>?_;have hp:0<=h*w*c':=lg (lg hh hw) bF;simp only[id];by_cases k1:k=1
  ·subst k1
   have A:=(aY.cells (h*w*c') hp).seq (k:=fun d _ r=>((⟨1,h,w,c',z,d⟩:M.Tn),r)) (h:=fun d=>R.ok ⟨1,h,w,c',z,d⟩) (ψ:=id) fun d=>aY.pure _ id;exact A
  ·by_cases k2:k=2
   ·subst k2
    have A:=(aY.sL (h*w*c') hp).seq (k:=fun d _ r=>((⟨2,h,w,c',z,d⟩:M.Tn),r)) (h:=fun d=>R.ok ⟨2,h,w,c',z,d⟩) (ψ:=id) fun d=>aY.pure _ id;exact A
   ·have k03:k=0\/k=3:=by simp at c;omega
    simp only[ak k1,ak k2,ay k03];exact aY.pure (⟨k,h,w,c',z,[]⟩:M.Tn) id
end R
end Go.Proofs.YtcnhfffgbamonaaGreat
