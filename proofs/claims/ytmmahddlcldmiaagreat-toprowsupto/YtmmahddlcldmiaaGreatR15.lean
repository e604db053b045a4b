/- What is proved here: how TopRows goes. No condition but what its calls are said to answer. -/
import Derived.Test.YtmmahddlcldmiaaGreatR14
namespace Go.Proofs.YtmmahddlcldmiaaGreat
open Go.RowKit Go.Proofs.Tryz
set_option maxRecDepth 100000
set_option maxHeartbeats 8000000
theorem Ff(bX:ar)(b0 bZ:Nat)(room:Int)(sa:ar)(sl sc:Nat)(b8:ar)(i cI:Nat)(l u p E F:Nat->Int)(G:Nat->aq)(H:Nat->ar)(J I:Nat->Nat)(w:ag)(bC:Nat->bt)(K:Nat->Nat->Nat->Nat->bt)(c4:i<=1048576)(bz:Hid (ao 5 #[] w λe w'=>e=.returned (.bool true)/\am w w'))(HB:Hid (∀W,am w W->ao 6 #[ae bX b0 bZ,ab room,ae sa sl sc] W λe w'=>(e=.returned (.pointer none)/\Hid (am w w'))\/∃d,e=.returned (aH d)/\Hid (am w w'/\bC d w')))(az:Hid (∀d W,bC d W->K d W.heap.size 0 0 ((W.alloc (.map #[] 0)).alloc (.map #[] 0))))(X:Hid (∀d m j s0 W,j<i->i<=80->K d m j s0 W->∃g o,(b8=some ⟨g,o,none⟩/\ai W g (o+j*7) (ab (l j))/\ai W g (o+j*7+1) (ab (u j))/\ai W g (o+j*7+2) (ab (p j))/\ai W g (o+j*7+3) (ab (E j))/\ai W g (o+j*7+4) (ab (F j))/\ai W g (o+j*7+5) (af (G j))/\ai W g (o+j*7+6) (ae (H j) (J j) (I j)))/\Hid (∀aX,am W aX->aX.heap[W.heap.size]?=some (.cells #[ab (l j),ab (u j),ab (p j),ab (E j),ab (F j),af (G j),ae (H j) (J j) (I j)] 33)->Qo w.heap.size d m W.heap.size s0 (l j) (u j) (p j) (.agg #[ab (l j),ab (u j),ab (p j),ab (E j),ab (F j),af (G j),ae (H j) (J j) (I j)]) (.cells #[ab (l j),ab (u j),ab (p j),ab (E j),ab (F j),af (G j),ae (H j) (J j) (I j)] 33) (K d m (j+1)) aX)))(T:Hid (∀d m s0 W,i<=80->K d m i s0 W->ao 14 #[aH d] W λe w'=>∃a n c,e=.returned (ae a n c)/\n<=1000000/\Hid (Q1 w m n a w'))):ao 4 #[ae bX b0 bZ,ab room,ae sa sl sc,ae b8 i cI] w λe w'=>e=.returned (.bool true)/\am w w':=by
 obtain⟨av,bP,bT,bU,bV⟩:=bY Hq;have ax:Hid (Tryz.prog.info? 31=some av/\av.zero=some (.agg #[ab 0,ab 0,af ⟨#[]⟩,ae none 0 0])/\av.size=4/\av.bytes=56):=⟨bP,bT,bU,bV⟩;clear bP bT bU bV;go_enter func4,ntmps4;go_wp2_with fail;refine bz.out.mono ?_;rintro e dd ⟨rfl,bi⟩;have bn:=ap bi;clear bz bi;go_wp2_with fail;refine(HB.out _ bn.out).mono ?_;clear HB bn;rintro e cG (⟨rfl,aV⟩|⟨d,rfl,aw⟩)
 ·have cp:=IS;clear az X T;go_wp2_with fail
  go_ret
  exact⟨rfl,aV.out⟩
 have cp:=NR d;by_cases bW:i<=80;rotate_left
 ·have ch:(80:Int)<(i:Int):=by omega
  have aV:=ap aw.out.1;clear az X T aw;go_wp2_with fail
  go_ret
  exact⟨rfl,aV.out⟩
 have ch:¬(80:Int)<(i:Int):=by omega
 have co:= @lC Tryz.prog;have bu:=ap (az.out _ _ aw.out.2);clear az aw;go_wp2_with fail;generalize cG.heap.size=m at*;go_loopw [12,14,15,16,17,18,19,20,22,23,24,25,26,27,28,29,30,50] (λcC _ _ _ _ _ _ _ _ _ _ _ _ _ _ _ _ q wr=>∃(j s0:Nat),j<=i/\cC=ab s0/\q=ab j/\Hid (K d m j s0 wr)) (λ_ _ _ _ _ _ _ _ _ _ _ _ _ _ _ _ _ q _=>i-(intOf q).toNat)
 case atStart=>exact⟨0,0,aM _,rfl,rfl,bu.out⟩
 case round=>
 clear bu co;obtain⟨j,s0,ck,rfl,rfl,ay⟩:=hrel;by_cases bQ:j<i
 ·obtain⟨g,o,⟨rfl,aY,Y,P,bE,cd,aZ,ce⟩,bo⟩:=X.out d m j s0 _ bQ bW ay.out;have c5:(0:Int)<=(j:Int):=by omega
  have c6:(j:Int)<(i:Int):=by omega
  clear X ay T;go_upto_region 11 with fail;generalize a6:World.alloc _ _=bc;have bJ:bc.heap[wr.heap.size]?=some (.cells #[ab (l j),ab (u j),ab (p j),ab (E j),ab (F j),af (G j),ae (H j) (J j) (I j)] 33):=by
   rw[<-a6];exact aD _ _
  have N:=ap (bo.out bc (by rw[<-a6];exact aS _ _) bJ);clear a6 bJ bo aY Y P bE cd aZ ce;generalize wr.heap.size=r at*;unfold Qo at N;go_wp2_with fail;refine N.out.mono ?_;rintro e cH ⟨cb,bD,Y,rfl,ci,bk⟩;clear N;obtain⟨bK,bH⟩:=bk.out;have bx:=ap bH;have d2:ai cH r 2 (ab (p j)):=ah bK 2;clear bk bK bH;go_wp2_with fail;refine bx.out.mono ?_;rintro e aL ⟨c9,y0,y1,y2,ya,yl,yc,b1,b3,b2,b7,rfl,cn,aN⟩;clear bx d2;go_upto_region 13 with fail;generalize y:World.alloc _ _=z;have a1:am aL z:=by rw[<-y];exact aS _ _
  have L:=dv a1 aN.out.1;have bq:=ap (aN.out.2 z a1);have d0:ai z r 0 (ab (l j)):=ah L 0;have d1:ai z r 1 (ab (u j)):=ah L 1;have d2:ai z r 2 (ab (p j)):=ah L 2;have d3:ai z r 3 (ab (E j)):=ah L 3;have d4:ai z r 4 (ab (F j)):=ah L 4;have d5:ai z r 5 (af (G j)):=ah L 5;have d6:ai z r 6 (ae (H j) (J j) (I j)):=ah L 6;clear y a1 L aN;generalize aL.heap.size=da at*;go_wp2_with fail;refine bq.out.mono ?_;rintro e de ⟨ba,rfl,bl⟩;have aT:=ap bl.out;clear bq bl d0 d1 d2 d3 d4 d5 d6;go_upto_region 14 with fail;go_cut [50,71,72,73]from 50 to 224 (λbb cD cE cF bf=>bb=ab j/\∃aB h b bF,cD=ae b (h-s0) bF/\cE=ab ((h-s0:Nat):Int)/\cF=ab 0/\(s0<=h/\h<=1000000)/\(s0<h->∀g,aB=some ⟨g,0,none⟩->b=some ⟨g,s0*7,none⟩)/\Hid (Q0 w.heap.size d m r (.cells #[ab (l j),ab (u j),ab (p j),ab (E j),ab (F j),af (G j),ae (H j) (J j) (I j)] 33) (l j) (u j) (p j) bD s0 h aB ba b7 b1 b3 b2 (K d m (j+1)) bf))
  case first=>
   go_wp2_with fail;refine aT.out.mono ?_;rintro e bd ⟨aB,h,P,rfl,⟨a7,a8,cq⟩,s⟩;clear aT;rcases cq with⟨rfl,rfl,rfl⟩|⟨⟨bG,rfl⟩,cU⟩
   ·obtain rfl:s0=0:=by omega
    go_wp2_with fail;go_meet;exact⟨rfl,none,0,none,0,rfl,rfl,rfl,⟨by omega,by omega⟩,λbh=>absurd bh (Nat.lt_irrefl _),s.out⟩
   ·have cN:(s0:Int)<=(h:Int):=by omega
    have cO:¬((h:Int)<(s0:Int)):=by omega
    have cP:(0:Int)<=(s0:Int):=by omega
    have cQ:¬((s0:Int)<0):=by omega
    have cR:(h:Int)<=(P:Int):=by omega
    by_cases cX:P=s0
    ·have cf:P-s0=0:=by omega
     have aO:=ap s.out;clear s;go_wp2_with fail;go_meet;exact⟨rfl,_,h,_,_,rfl,rfl,rfl,⟨a7,a8⟩,λbh=>absurd bh (by omega),aO.out⟩
    ·have cf:¬P=s0:=by omega
     have cS:¬P-s0=0:=by omega
     have aO:=ap s.out;clear s;go_wp2_with fail;go_meet;exact⟨rfl,_,h,_,_,rfl,rfl,rfl,⟨a7,a8⟩,λ_ g e=>by simp only[gZ,Addr.mk.injEq]at e;rw[e.1],aO.out⟩
  case rest=>
  obtain⟨rfl,aB,h,cM,bF,rfl,rfl,rfl,⟨a7,a8⟩,bN,bv⟩:=hcut;clear aT;obtain⟨aW,al,au,an⟩:=bv.out;have V:=ap al;have D:=ap au;have C:=ap an;have aQ:=ap bN;clear bv al au an bN;obtain⟨n,R⟩:∃n,h-s0=n:=⟨_,rfl⟩;rw[R]at D C ⊢;have c1:n<=1000000:=by omega
  replace R:=ap R;go_wp2_with fail;go_loopw [22,23,73] (λ_ _ q be=>∃(k:Nat),k<=n/\q=ab k/\Hid (aW k be)) (λ_ _ q _=>n-(intOf q).toNat)
  case atStart=>exact⟨0,aM _,rfl,V.out⟩
  case round=>
  clear V;obtain⟨k,cl,rfl,A⟩:=hrel;by_cases aF:k<n
  ·obtain⟨bG,wt,aC,aE,t0,t1,t2,aI,aK,aJ,⟨bL,cu,cv,cw,cx,cy,cz,cA⟩,a3,O⟩:=D.out k _ aF A.out;obtain rfl:=aQ.out (by have:=R.out;omega) _ bL;have cr:(0:Int)<=(k:Int):=by omega
   have ct:(k:Int)<(n:Int):=by omega
   clear D C A aQ bL;go_upto_region 17 with fail;generalize y:World.alloc _ _=f;have Q:am wr f:=by rw[<-y];exact aS _ _
   have v:f.heap[wr.heap.size]?=some (.cells #[af wt,ab aC,ab aE,ab t0,ab t1,af t2,ae aI aK aJ] 54):=by
    rw[<-y];exact aD _ _
   have d0:ai f wr.heap.size 0 (af wt):=ah v 0;clear cu cv cw cx cy cz cA y;by_cases S:wt=dV
   ·have bm:=ap (O.out.2 S);have d1:ai f wr.heap.size 1 (ab aC):=ah v 1;have d2:ai f wr.heap.size 2 (ab aE):=ah v 2;rw[S]at d0;unfold dV at d0;clear S O;have aP:=ap Q;have bB:=ap v;have bw:=ap a3;clear Q v a3;go_upto_region 19 with fail;generalize a5:World.alloc _ _=B;have a0:am f B:=by rw[<-a5];exact aS _ _
    have a2:B.heap[f.heap.size]?=some (.cells #[ab aC,ab aE] 44):=by
     rw[<-a5];exact aD _ _
    have Z:=dv a0 bB.out;obtain⟨b5,b4,b6,cJ,dc,cK,c2,cj,cV,N⟩:=JR bm.out bw.out (aP.out.trans (a0.mono aP.out.size));have f0:ai B f.heap.size 0 (ab aC):=ah a2 0;have f1:ai B f.heap.size 1 (ab aE):=ah a2 1;have d3:ai B wr.heap.size 3 (ab t0):=ah Z 3;have d4:ai B wr.heap.size 4 (ab t1):=ah Z 4;have d5:ai B wr.heap.size 5 (af t2):=ah Z 5;have d6:ai B wr.heap.size 6 (ae aI aK aJ):=ah Z 6;clear a5 a0 a2 Z bm bw aP bB d0 d1 d2;generalize f.heap.size=db at*;generalize wr.heap.size=a9 at*
    go_wp2_with (first
     | (at_builtin;refine wpList_append_lies _ rfl _ _ 29 rfl w.heap.size 31 av _ 4 56 underlying29 ax.out.1 ax.out.2.1 ax.out.2.2.1 ax.out.2.2.2 rfl (by decide) (ae b5 b4 b6) b4 cJ rfl N.out.1 ⟨B.heap.size,0,none⟩ 1 1 [ab t0,ab t1,af t2,ae aI aK aJ] rfl rfl (World.news_of_block (cs:= #[ab t0,ab t1,af t2,ae aI aK aJ]) (t:=31) (fr:=(0,0)) N.out.2.1) (by simp[Value.oneCell']) (by decide) (by unfold maxLen;omega) (by omega) cj _ rfl ?_;intro cg aZ aL bR bO bM cm;obtain⟨z,cW,bI⟩:=N.out.2.2 cg aZ aL bO bR bM;have ca:=ap bI;clear bR bO bM cm bI))
    go_roundw
    case rel=>exact⟨k+1,by omega,by go_num,ca.out⟩
    case measure=>simp[intOf];omega
   ·have aU:=ap (O.out.1 S _ Q);have c3:(wt.toList==[115,101,110,100])=false:=Ny S;clear S O Q v a3;go_wp2_with fail;go_roundw
    case rel=>exact⟨k+1,by omega,by go_num,aU.out⟩
    case measure=>simp[intOf];omega
  obtain rfl:k=n:=by omega
  have aR:=ap (C.out _ A.out);unfold QF at aR;clear D C A aQ R aF;go_wp2_with fail;refine aR.out.mono ?_;rintro e bd ⟨cL,aA,bE,rfl,s⟩;clear aR;obtain⟨aa,ad,aG⟩:=s.out;have d0:ai bd r 0 (ab (l j)):=ah aa 0;by_cases M:l j=2;rotate_left
  ·have cc:(l j==2)=false:=by simpa using M
   have U:=ap (ad (aj M));clear s aa ad aG M;go_wp2_with fail;go_roundw
   case rel=>exact⟨j+1,aA,by omega,rfl,by go_num,U.out⟩
   case measure=>simp[intOf];omega
  by_cases a4:ba=0;rotate_left
  ·have cc:(ba==0)=false:=by simpa using a4
   have U:=ap (ad (ak a4));rw[M]at d0;clear s aa ad aG M;go_wp2_with fail;go_roundw
   case rel=>exact⟨j+1,aA,by omega,rfl,by go_num,U.out⟩
   case measure=>simp[intOf];omega
  subst a4;have bp:=ap (aG M rfl);rw[M]at d0;have bA:=ap aa;clear s aa ad aG M;go_upto_if 104 with fail;go_cut [50]from 50 to 224 (λbb bf=>bb=ab j/\bf=bd)
  case first=>
   clear bA bp;go_wp2_with fail;go_meet;exact⟨rfl,rfl⟩
  case rest=>
  obtain⟨rfl,rfl⟩:=hcut;clear d0;refine Lz d m r (l j) (u j) (p j) (E j) (F j) (G j) (H j) (J j) (I j) cb bD Y b7 b1 b3 b2 (K d m (j+1) aA) _ ci cn bA bp (by assumption) (λwr U=>?_);go_wp2_with fail;go_roundw
  case rel=>exact⟨j+1,aA,by omega,rfl,by go_num,U.out⟩
  case measure=>simp[intOf];omega
 obtain rfl:j=i:=by omega
 have br:=ap (T.out _ _ _ _ bW ay.out);clear X T ay ck bQ;go_wp2_with fail;refine br.out.mono ?_;rintro e bc ⟨a,n,c,rfl,R,bj⟩;clear br;obtain⟨aW,al,au,an⟩:=bj.out;have V:=ap al;have D:=ap au;have C:=ap an;clear bj al au an;go_wp2_with fail;go_loopw [32,228] (λ_ q be=>∃(k:Nat),k<=n/\q=ab k/\Hid (aW k be)) (λ_ q _=>n-(intOf q).toNat)
 case atStart=>exact⟨0,aM _,rfl,V.out⟩
 case round=>
 clear V;obtain⟨k,cl,rfl,A⟩:=hrel;by_cases aF:k<n;rotate_left
 ·obtain rfl:k=n:=by omega
  have aU:=ap (C.out _ A.out);clear D C A;go_wp2_with fail
  go_ret
  exact⟨rfl,aU.out⟩
 obtain⟨g,o,x,bg,⟨rfl,aY,Y⟩,O⟩:=D.out _ _ aF A.out;have cr:(0:Int)<=(k:Int):=by omega
 have ct:(k:Int)<(n:Int):=by omega
 clear D C A;obtain⟨gk,cB,b6,b5,⟨cT,bG⟩,bs⟩:=O.out;go_upto_region 42 with fail;generalize y:World.alloc _ _=f;have Q:am wr f:=by rw[<-y];exact aS _ _
 have v:f.heap[wr.heap.size]?=some (.cells #[ab x,ab bg] 44):=by
  rw[<-y];exact aD _ _
 obtain⟨bS,cY,cZ⟩:=bs f.drew Q.drew;have c7:ai f wr.heap.size 0 (ab x):=ah v 0;have c8:ai f wr.heap.size 1 (ab bg):=ah v 1;have c0:¬(cB:Int)<=(gk:Int):=by omega
 have b9:=ap bS;clear y Q v O bs aY Y bS;generalize wr.heap.size=a9 at*;go_region_held3 (λW=>W.cell? ⟨a9,0,none⟩=some (Value.int .i64 x)/\W.cell? ⟨a9,1,none⟩=some (Value.int .i64 bg)) ((go_keep;done)) (fail)
 all_goals
  go_wp2_with fail;exact⟨⟨k+1,by omega,by go_num,b9.out⟩,by simp[intOf];omega⟩
end Go.Proofs.YtmmahddlcldmiaaGreat
