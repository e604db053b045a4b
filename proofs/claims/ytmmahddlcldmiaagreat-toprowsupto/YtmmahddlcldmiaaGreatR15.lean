/- What is proved here: how TopRows goes. No condition but what its calls are said to answer. -/
import Derived.Test.YtmmahddlcldmiaaGreatR14
namespace Go.Proofs.YtmmahddlcldmiaaGreat
open Go.RowKit Go.Proofs.Tryz
set_option maxRecDepth 100000
set_option maxHeartbeats 8000000
theorem Ff(bW:ar)(bZ bX:Nat)(room:Int)(sa:ar)(sl sc:Nat)(b7:ar)(i cH:Nat)(l u p E F:Nat->Int)(G:Nat->aq)(H:Nat->ar)(J I:Nat->Nat)(w:ag)(bB:Nat->bt)(K:Nat->Nat->Nat->Nat->bt)(c3:i<=1048576)(bx:Hid (ao 5 #[] w λe w'=>e=.returned (.bool true)/\am w w'))(HB:Hid (∀W,am w W->ao 6 #[ae bW bZ bX,ab room,ae sa sl sc] W λe w'=>(e=.returned (.pointer none)/\Hid (am w w'))\/∃d,e=.returned (.pointer (some ⟨d,0,none⟩))/\Hid (am w w'/\bB d w')))(az:Hid (∀d W,bB d W->K d W.heap.size 0 0 ((W.alloc (.map #[] 0)).alloc (.map #[] 0))))(X:Hid (∀d m j s0 W,j<i->i<=80->K d m j s0 W->∃g o,(b7=some ⟨g,o,none⟩/\ai W g (o+j*7) (ab (l j))/\ai W g (o+j*7+1) (ab (u j))/\ai W g (o+j*7+2) (ab (p j))/\ai W g (o+j*7+3) (ab (E j))/\ai W g (o+j*7+4) (ab (F j))/\ai W g (o+j*7+5) (af (G j))/\ai W g (o+j*7+6) (ae (H j) (J j) (I j)))/\Hid (∀aW,am W aW->aW.heap[W.heap.size]?=some (.cells #[ab (l j),ab (u j),ab (p j),ab (E j),ab (F j),af (G j),ae (H j) (J j) (I j)] 33)->Qo w.heap.size d m W.heap.size s0 (l j) (u j) (p j) (.agg #[ab (l j),ab (u j),ab (p j),ab (E j),ab (F j),af (G j),ae (H j) (J j) (I j)]) (.cells #[ab (l j),ab (u j),ab (p j),ab (E j),ab (F j),af (G j),ae (H j) (J j) (I j)] 33) (K d m (j+1)) aW)))(T:Hid (∀d m s0 W,i<=80->K d m i s0 W->ao 14 #[.pointer (some ⟨d,0,none⟩)] W λe w'=>∃a n c,e=.returned (ae a n c)/\n<=1000000/\Hid (Q1 w m n a w'))):ao 4 #[ae bW bZ bX,ab room,ae sa sl sc,ae b7 i cH] w λe w'=>e=.returned (.bool true)/\am w w':=by
 obtain⟨av,bO,bS,bT,bU⟩:=bY Hq;have ax:Hid (Tryz.prog.info? 31=some av/\av.zero=some (.agg #[ab 0,ab 0,af ⟨#[]⟩,ae none 0 0])/\av.size=4/\av.bytes=56):=⟨bO,bS,bT,bU⟩;clear bO bS bT bU;go_enter func4,ntmps4;go_wp2_with fail;refine bx.out.mono ?_;rintro e dc ⟨rfl,bh⟩;have bm:=ap bh;clear bx bh;go_wp2_with fail;refine(HB.out _ bm.out).mono ?_;clear HB bm;rintro e cF (⟨rfl,aU⟩|⟨d,rfl,aw⟩)
 ·have co:=IS;clear az X T;go_wp2_with fail
  go_ret
  exact⟨rfl,aU.out⟩
 have co:=NR d;by_cases bV:i<=80;rotate_left
 ·have cg:(80:Int)<(i:Int):=by omega
  have aU:=ap aw.out.1;clear az X T aw;go_wp2_with fail
  go_ret
  exact⟨rfl,aU.out⟩
 have cg:¬(80:Int)<(i:Int):=by omega
 have cn:= @lC Tryz.prog;have bs:=ap (az.out _ _ aw.out.2);clear az aw;go_wp2_with fail;generalize cF.heap.size=m at*;go_loopw [12,14,15,16,17,18,19,20,22,23,24,25,26,27,28,29,30,50] (λcB _ _ _ _ _ _ _ _ _ _ _ _ _ _ _ _ q wr=>∃(j s0:Nat),j<=i/\cB=ab s0/\q=ab j/\Hid (K d m j s0 wr)) (λ_ _ _ _ _ _ _ _ _ _ _ _ _ _ _ _ _ q _=>i-(intOf q).toNat)
 case atStart=>exact⟨0,0,aM _,rfl,rfl,bs.out⟩
 case round=>
 clear bs cn;obtain⟨j,s0,cj,rfl,rfl,ay⟩:=hrel;by_cases bP:j<i
 ·obtain⟨g,o,⟨rfl,aX,Y,P,bD,cc,aY,cd⟩,bn⟩:=X.out d m j s0 _ bP bV ay.out;have c4:(0:Int)<=(j:Int):=by omega
  have c5:(j:Int)<(i:Int):=by omega
  clear X ay T;go_upto_region 11 with fail;generalize a5:World.alloc _ _=bb;have bI:bb.heap[wr.heap.size]?=some (.cells #[ab (l j),ab (u j),ab (p j),ab (E j),ab (F j),af (G j),ae (H j) (J j) (I j)] 33):=by
   rw[<-a5];exact aD _ _
  have N:=ap (bn.out bb (by rw[<-a5];exact aS _ _) bI);clear a5 bI bn aX Y P bD cc aY cd;generalize wr.heap.size=r at*;unfold Qo at N;go_wp2_with fail;refine N.out.mono ?_;rintro e cG ⟨ca,bC,Y,rfl,ch,bj⟩;clear N;obtain⟨bJ,bG⟩:=bj.out;have bw:=ap bG;have d2:ai cG r 2 (ab (p j)):=ah bJ 2;clear bj bJ bG;go_wp2_with fail;refine bw.out.mono ?_;rintro e aK ⟨c8,y0,y1,y2,ya,yl,yc,b0,b2,b1,b6,rfl,cm,aL⟩;clear bw d2;go_upto_region 13 with fail;generalize y:World.alloc _ _=z;have a0:am aK z:=by rw[<-y];exact aS _ _
  have L:=dv a0 aL.out.1;have bp:=ap (aL.out.2 z a0);have d0:ai z r 0 (ab (l j)):=ah L 0;have d1:ai z r 1 (ab (u j)):=ah L 1;have d2:ai z r 2 (ab (p j)):=ah L 2;have d3:ai z r 3 (ab (E j)):=ah L 3;have d4:ai z r 4 (ab (F j)):=ah L 4;have d5:ai z r 5 (af (G j)):=ah L 5;have d6:ai z r 6 (ae (H j) (J j) (I j)):=ah L 6;clear y a0 L aL;generalize aK.heap.size=c9 at*;go_wp2_with fail;refine bp.out.mono ?_;rintro e dd ⟨a9,rfl,bk⟩;have aR:=ap bk.out;clear bp bk d0 d1 d2 d3 d4 d5 d6;go_upto_region 14 with fail;go_cut [50,71,72,73]from 50 to 224 (λba cC cD cE be=>ba=ab j/\∃aB h b bE,cC=ae b (h-s0) bE/\cD=ab ((h-s0:Nat):Int)/\cE=ab 0/\(s0<=h/\h<=1000000)/\(s0<h->∀g,aB=some ⟨g,0,none⟩->b=some ⟨g,s0*7,none⟩)/\Hid (Q0 w.heap.size d m r (.cells #[ab (l j),ab (u j),ab (p j),ab (E j),ab (F j),af (G j),ae (H j) (J j) (I j)] 33) (l j) (u j) (p j) bC s0 h aB a9 b6 b0 b2 b1 (K d m (j+1)) be))
  case first=>
   go_wp2_with fail;refine aR.out.mono ?_;rintro e bc ⟨aB,h,P,rfl,⟨a6,a7,cp⟩,s⟩;clear aR;rcases cp with⟨rfl,rfl,rfl⟩|⟨⟨bF,rfl⟩,cT⟩
   ·obtain rfl:s0=0:=by omega
    go_wp2_with fail;go_meet;exact⟨rfl,none,0,none,0,rfl,rfl,rfl,⟨by omega,by omega⟩,λbg=>absurd bg (Nat.lt_irrefl _),s.out⟩
   ·have cM:(s0:Int)<=(h:Int):=by omega
    have cN:¬((h:Int)<(s0:Int)):=by omega
    have cO:(0:Int)<=(s0:Int):=by omega
    have cP:¬((s0:Int)<0):=by omega
    have cQ:(h:Int)<=(P:Int):=by omega
    by_cases cW:P=s0
    ·have ce:P-s0=0:=by omega
     have aN:=ap s.out;clear s;go_wp2_with fail;go_meet;exact⟨rfl,_,h,_,_,rfl,rfl,rfl,⟨a6,a7⟩,λbg=>absurd bg (by omega),aN.out⟩
    ·have ce:¬P=s0:=by omega
     have cR:¬P-s0=0:=by omega
     have aN:=ap s.out;clear s;go_wp2_with fail;go_meet;exact⟨rfl,_,h,_,_,rfl,rfl,rfl,⟨a6,a7⟩,λ_ g e=>by simp only[gZ,Addr.mk.injEq]at e;rw[e.1],aN.out⟩
  case rest=>
  obtain⟨rfl,aB,h,cL,bE,rfl,rfl,rfl,⟨a6,a7⟩,bM,bu⟩:=hcut;clear aR;obtain⟨aV,al,au,an⟩:=bu.out;have V:=ap al;have D:=ap au;have C:=ap an;have aP:=ap bM;clear bu al au an bM;obtain⟨n,R⟩:∃n,h-s0=n:=⟨_,rfl⟩;rw[R]at D C ⊢;have c0:n<=1000000:=by omega
  replace R:=ap R;go_wp2_with fail;go_loopw [22,23,73] (λ_ _ q bd=>∃(k:Nat),k<=n/\q=ab k/\Hid (aV k bd)) (λ_ _ q _=>n-(intOf q).toNat)
  case atStart=>exact⟨0,aM _,rfl,V.out⟩
  case round=>
  clear V;obtain⟨k,ck,rfl,A⟩:=hrel;by_cases aF:k<n
  ·obtain⟨bF,wt,aC,aE,t0,t1,t2,aH,aJ,aI,⟨bK,ct,cu,cv,cw,cx,cy,cz⟩,a2,O⟩:=D.out k _ aF A.out;obtain rfl:=aP.out (by have:=R.out;omega) _ bK;have cq:(0:Int)<=(k:Int):=by omega
   have cr:(k:Int)<(n:Int):=by omega
   clear D C A aP bK;go_upto_region 17 with fail;generalize y:World.alloc _ _=f;have Q:am wr f:=by rw[<-y];exact aS _ _
   have v:f.heap[wr.heap.size]?=some (.cells #[af wt,ab aC,ab aE,ab t0,ab t1,af t2,ae aH aJ aI] 54):=by
    rw[<-y];exact aD _ _
   have d0:ai f wr.heap.size 0 (af wt):=ah v 0;clear ct cu cv cw cx cy cz y;by_cases S:wt=dV
   ·have bl:=ap (O.out.2 S);have d1:ai f wr.heap.size 1 (ab aC):=ah v 1;have d2:ai f wr.heap.size 2 (ab aE):=ah v 2;rw[S]at d0;unfold dV at d0;clear S O;have aO:=ap Q;have bA:=ap v;have bv:=ap a2;clear Q v a2;go_upto_region 19 with fail;generalize a4:World.alloc _ _=B;have aZ:am f B:=by rw[<-a4];exact aS _ _
    have a1:B.heap[f.heap.size]?=some (.cells #[ab aC,ab aE] 44):=by
     rw[<-a4];exact aD _ _
    have Z:=dv aZ bA.out;obtain⟨b4,b3,b5,cI,db,cJ,c1,ci,cU,N⟩:=JR bl.out bv.out (aO.out.trans (aZ.mono aO.out.size));have f0:ai B f.heap.size 0 (ab aC):=ah a1 0;have f1:ai B f.heap.size 1 (ab aE):=ah a1 1;have d3:ai B wr.heap.size 3 (ab t0):=ah Z 3;have d4:ai B wr.heap.size 4 (ab t1):=ah Z 4;have d5:ai B wr.heap.size 5 (af t2):=ah Z 5;have d6:ai B wr.heap.size 6 (ae aH aJ aI):=ah Z 6;clear a4 aZ a1 Z bl bv aO bA d0 d1 d2;generalize f.heap.size=da at*;generalize wr.heap.size=a8 at*
    go_wp2_with (first
     | (at_builtin;refine wpList_append_lies _ rfl _ _ 29 rfl w.heap.size 31 av _ 4 56 underlying29 ax.out.1 ax.out.2.1 ax.out.2.2.1 ax.out.2.2.2 rfl (by decide) (ae b4 b3 b5) b3 cI rfl N.out.1 ⟨B.heap.size,0,none⟩ 1 1 [ab t0,ab t1,af t2,ae aH aJ aI] rfl rfl (World.news_of_block (cs:= #[ab t0,ab t1,af t2,ae aH aJ aI]) (t:=31) (fr:=(0,0)) N.out.2.1) (by simp[Value.oneCell']) (by decide) (by unfold maxLen;omega) (by omega) ci _ rfl ?_;intro cf aY aK bQ bN bL cl;obtain⟨z,cV,bH⟩:=N.out.2.2 cf aY aK bN bQ bL;have b9:=ap bH;clear bQ bN bL cl bH))
    go_roundw
    case rel=>exact⟨k+1,by omega,by go_num,b9.out⟩
    case measure=>simp[intOf];omega
   ·have aT:=ap (O.out.1 S _ Q);have c2:(wt.toList==[115,101,110,100])=false:=Ny S;clear S O Q v a2;go_wp2_with fail;go_roundw
    case rel=>exact⟨k+1,by omega,by go_num,aT.out⟩
    case measure=>simp[intOf];omega
  obtain rfl:k=n:=by omega
  have aQ:=ap (C.out _ A.out);unfold QF at aQ;clear D C A aP R aF;go_wp2_with fail;refine aQ.out.mono ?_;rintro e bc ⟨cK,aA,bD,rfl,s⟩;clear aQ;obtain⟨aa,ad,aG⟩:=s.out;have d0:ai bc r 0 (ab (l j)):=ah aa 0;by_cases M:l j=2;rotate_left
  ·have cb:(l j==2)=false:=by simpa using M
   have U:=ap (ad (aj M));clear s aa ad aG M;go_wp2_with fail;go_roundw
   case rel=>exact⟨j+1,aA,by omega,rfl,by go_num,U.out⟩
   case measure=>simp[intOf];omega
  by_cases a3:a9=0;rotate_left
  ·have cb:(a9==0)=false:=by simpa using a3
   have U:=ap (ad (ak a3));rw[M]at d0;clear s aa ad aG M;go_wp2_with fail;go_roundw
   case rel=>exact⟨j+1,aA,by omega,rfl,by go_num,U.out⟩
   case measure=>simp[intOf];omega
  subst a3;have bo:=ap (aG M rfl);rw[M]at d0;have bz:=ap aa;clear s aa ad aG M;go_upto_if 104 with fail;go_cut [50]from 50 to 224 (λba be=>ba=ab j/\be=bc)
  case first=>
   clear bz bo;go_wp2_with fail;go_meet;exact⟨rfl,rfl⟩
  case rest=>
  obtain⟨rfl,rfl⟩:=hcut;clear d0;refine Lz d m r (l j) (u j) (p j) (E j) (F j) (G j) (H j) (J j) (I j) ca bC Y b6 b0 b2 b1 (K d m (j+1) aA) _ ch cm bz bo (by assumption) (λwr U=>?_);go_wp2_with fail;go_roundw
  case rel=>exact⟨j+1,aA,by omega,rfl,by go_num,U.out⟩
  case measure=>simp[intOf];omega
 obtain rfl:j=i:=by omega
 have bq:=ap (T.out _ _ _ _ bV ay.out);clear X T ay cj bP;go_wp2_with fail;refine bq.out.mono ?_;rintro e bb ⟨a,n,c,rfl,R,bi⟩;clear bq;obtain⟨aV,al,au,an⟩:=bi.out;have V:=ap al;have D:=ap au;have C:=ap an;clear bi al au an;go_wp2_with fail;go_loopw [32,228] (λ_ q bd=>∃(k:Nat),k<=n/\q=ab k/\Hid (aV k bd)) (λ_ q _=>n-(intOf q).toNat)
 case atStart=>exact⟨0,aM _,rfl,V.out⟩
 case round=>
 clear V;obtain⟨k,ck,rfl,A⟩:=hrel;by_cases aF:k<n;rotate_left
 ·obtain rfl:k=n:=by omega
  have aT:=ap (C.out _ A.out);clear D C A;go_wp2_with fail
  go_ret
  exact⟨rfl,aT.out⟩
 obtain⟨g,o,x,bf,⟨rfl,aX,Y⟩,O⟩:=D.out _ _ aF A.out;have cq:(0:Int)<=(k:Int):=by omega
 have cr:(k:Int)<(n:Int):=by omega
 clear D C A;obtain⟨gk,cA,b5,b4,⟨cS,bF⟩,br⟩:=O.out;go_upto_region 42 with fail;generalize y:World.alloc _ _=f;have Q:am wr f:=by rw[<-y];exact aS _ _
 have v:f.heap[wr.heap.size]?=some (.cells #[ab x,ab bf] 44):=by
  rw[<-y];exact aD _ _
 obtain⟨bR,cX,cY⟩:=br f.drew Q.drew;have c6:ai f wr.heap.size 0 (ab x):=ah v 0;have c7:ai f wr.heap.size 1 (ab bf):=ah v 1;have cZ:¬(cA:Int)<=(gk:Int):=by omega
 have b8:=ap bR;clear y Q v O br aX Y bR;generalize wr.heap.size=a8 at*;go_region_held3 (λW=>W.cell? ⟨a8,0,none⟩=some (Value.int .i64 x)/\W.cell? ⟨a8,1,none⟩=some (Value.int .i64 bf)) ((go_keep;done)) (fail)
 all_goals
  go_wp2_with fail;exact⟨⟨k+1,by omega,by go_num,b8.out⟩,by simp[intOf];omega⟩
end Go.Proofs.YtmmahddlcldmiaaGreat
