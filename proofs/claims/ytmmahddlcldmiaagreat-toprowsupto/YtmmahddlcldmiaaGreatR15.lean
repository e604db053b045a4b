/- What is proved here: how TopRows goes. No condition but what its calls are said to answer. -/
import Derived.Test.YtmmahddlcldmiaaGreatR14
namespace Go.Proofs.YtmmahddlcldmiaaGreat
open Go.RowKit Go.Proofs.Tryz
set_option maxRecDepth 100000
set_option maxHeartbeats 8000000
theorem Ff(bV:ar)(bX bW:Nat)(room:Int)(sa:ar)(sl sc:Nat)(b6:ar)(i cG:Nat)(l u p E F:Nat->Int)(G:Nat->aq)(H:Nat->ar)(J I:Nat->Nat)(w:ag)(bA:Nat->bt)(K:Nat->Nat->Nat->Nat->bt)(c2:i<=1048576)(bw:Hid (ao 5 #[] w λe w'=>e=.returned (.bool true)/\Below w.heap.size w w'))(HB:Hid (∀W,Below w.heap.size w W->ao 6 #[ae bV bX bW,ab room,ae sa sl sc] W λe w'=>(e=.returned (.pointer none)/\Hid (Below w.heap.size w w'))\/∃d,e=.returned (aH d)/\Hid (Below w.heap.size w w'/\bA d w')))(ay:Hid (∀d W,bA d W->K d W.heap.size 0 0 ((W.alloc (.map #[] 0)).alloc (.map #[] 0))))(X:Hid (∀d m j s0 W,j<i->i<=80->K d m j s0 W->∃g o,(b6=some ⟨g,o,none⟩/\W.cell? ⟨g,o+j*7,none⟩=some (ab (l j))/\W.cell? ⟨g,o+j*7+1,none⟩=some (ab (u j))/\W.cell? ⟨g,o+j*7+2,none⟩=some (ab (p j))/\W.cell? ⟨g,o+j*7+3,none⟩=some (ab (E j))/\W.cell? ⟨g,o+j*7+4,none⟩=some (ab (F j))/\W.cell? ⟨g,o+j*7+5,none⟩=some (af (G j))/\W.cell? ⟨g,o+j*7+6,none⟩=some (ae (H j) (J j) (I j)))/\Hid (∀aV,Below W.heap.size W aV->aV.heap[W.heap.size]?=some (.cells #[ab (l j),ab (u j),ab (p j),ab (E j),ab (F j),af (G j),ae (H j) (J j) (I j)] 33)->Qo w.heap.size d m W.heap.size s0 (l j) (u j) (p j) (.agg #[ab (l j),ab (u j),ab (p j),ab (E j),ab (F j),af (G j),ae (H j) (J j) (I j)]) (.cells #[ab (l j),ab (u j),ab (p j),ab (E j),ab (F j),af (G j),ae (H j) (J j) (I j)] 33) (K d m (j+1)) aV)))(T:Hid (∀d m s0 W,i<=80->K d m i s0 W->ao 14 #[aH d] W λe w'=>∃a n c,e=.returned (ae a n c)/\n<=1000000/\Hid (Q1 w m n a w'))):ao 4 #[ae bV bX bW,ab room,ae sa sl sc,ae b6 i cG] w λe w'=>e=.returned (.bool true)/\Below w.heap.size w w':=by
 obtain⟨an,bN,bR,bS,bT⟩:=bY Hq;have aw:Hid (Tryz.prog.info? 31=some an/\an.zero=some (.agg #[ab 0,ab 0,af ⟨#[]⟩,ae none 0 0])/\an.size=4/\an.bytes=56):=⟨bN,bR,bS,bT⟩;clear bN bR bS bT;go_enter func4,ntmps4;go_wp2_with fail;refine bw.out.mono ?_;rintro e db ⟨rfl,bg⟩;have bl:=ap bg;clear bw bg;go_wp2_with fail;refine(HB.out _ bl.out).mono ?_;clear HB bl;rintro e cE (⟨rfl,aT⟩|⟨d,rfl,av⟩)
 ·have cn:=IS;clear ay X T;go_wp2_with fail
  go_ret
  exact⟨rfl,aT.out⟩
 have cn:=NR d;by_cases bU:i<=80;rotate_left
 ·have cf:(80:Int)<(i:Int):=by omega
  have aT:=ap av.out.1;clear ay X T av;go_wp2_with fail
  go_ret
  exact⟨rfl,aT.out⟩
 have cf:¬(80:Int)<(i:Int):=by omega
 have cm:= @lC Tryz.prog;have br:=ap (ay.out _ _ av.out.2);clear ay av;go_wp2_with fail;generalize cE.heap.size=m at*;go_loopw [12,14,15,16,17,18,19,20,22,23,24,25,26,27,28,29,30,50] (λcA _ _ _ _ _ _ _ _ _ _ _ _ _ _ _ _ q wr=>∃(j s0:Nat),j<=i/\cA=ab s0/\q=ab j/\Hid (K d m j s0 wr)) (λ_ _ _ _ _ _ _ _ _ _ _ _ _ _ _ _ _ q _=>i-(intOf q).toNat)
 case atStart=>exact⟨0,0,aM _,rfl,rfl,br.out⟩
 case round=>
 clear br cm;obtain⟨j,s0,ci,rfl,rfl,ax⟩:=hrel;by_cases bO:j<i
 ·obtain⟨g,o,⟨rfl,aW,Y,P,bC,cb,aX,cc⟩,bm⟩:=X.out d m j s0 _ bO bU ax.out;have c3:(0:Int)<=(j:Int):=by omega
  have c4:(j:Int)<(i:Int):=by omega
  clear X ax T;go_upto_region 11 with fail;generalize a4:World.alloc _ _=ba;have bH:ba.heap[wr.heap.size]?=some (.cells #[ab (l j),ab (u j),ab (p j),ab (E j),ab (F j),af (G j),ae (H j) (J j) (I j)] 33):=by
   rw[<-a4];exact aD _ _
  have N:=ap (bm.out ba (by rw[<-a4];exact aS _ _) bH);clear a4 bH bm aW Y P bC cb aX cc;generalize wr.heap.size=r at*;unfold Qo at N;go_wp2_with fail;refine N.out.mono ?_;rintro e cF ⟨b9,bB,Y,rfl,cg,bi⟩;clear N;obtain⟨bI,bF⟩:=bi.out;have bv:=ap bF;have d2:cF.cell? ⟨r,2,none⟩=some (ab (p j)):=ah bI 2;clear bi bI bF;go_wp2_with fail;refine bv.out.mono ?_;rintro e au ⟨c7,y0,y1,y2,ya,yl,yc,bZ,b1,b0,b5,rfl,cl,aK⟩;clear bv d2;go_upto_region 13 with fail;generalize y:World.alloc _ _=z;have aZ:Below au.heap.size au z:=by rw[<-y];exact aS _ _
  have L:=dv aZ aK.out.1;have bo:=ap (aK.out.2 z aZ);have d0:z.cell? ⟨r,0,none⟩=some (ab (l j)):=ah L 0;have d1:z.cell? ⟨r,1,none⟩=some (ab (u j)):=ah L 1;have d2:z.cell? ⟨r,2,none⟩=some (ab (p j)):=ah L 2;have d3:z.cell? ⟨r,3,none⟩=some (ab (E j)):=ah L 3;have d4:z.cell? ⟨r,4,none⟩=some (ab (F j)):=ah L 4;have d5:z.cell? ⟨r,5,none⟩=some (af (G j)):=ah L 5;have d6:z.cell? ⟨r,6,none⟩=some (ae (H j) (J j) (I j)):=ah L 6;clear y aZ L aK;generalize au.heap.size=c8 at*;go_wp2_with fail;refine bo.out.mono ?_;rintro e dc ⟨a8,rfl,bj⟩;have aQ:=ap bj.out;clear bo bj d0 d1 d2 d3 d4 d5 d6;go_upto_region 14 with fail;go_cut [50,71,72,73]from 50 to 224 (λa9 cB cC cD bd=>a9=ab j/\∃aA h b bD,cB=ae b (h-s0) bD/\cC=ab ((h-s0:Nat):Int)/\cD=ab 0/\(s0<=h/\h<=1000000)/\(s0<h->∀g,aA=some ⟨g,0,none⟩->b=some ⟨g,s0*7,none⟩)/\Hid (Q0 w.heap.size d m r (.cells #[ab (l j),ab (u j),ab (p j),ab (E j),ab (F j),af (G j),ae (H j) (J j) (I j)] 33) (l j) (u j) (p j) bB s0 h aA a8 b5 bZ b1 b0 (K d m (j+1)) bd))
  case first=>
   go_wp2_with fail;refine aQ.out.mono ?_;rintro e bb ⟨aA,h,P,rfl,⟨a5,a6,co⟩,s⟩;clear aQ;rcases co with⟨rfl,rfl,rfl⟩|⟨⟨bE,rfl⟩,cS⟩
   ·obtain rfl:s0=0:=by omega
    go_wp2_with fail;go_meet;exact⟨rfl,none,0,none,0,rfl,rfl,rfl,⟨by omega,by omega⟩,λbf=>absurd bf (Nat.lt_irrefl _),s.out⟩
   ·have cL:(s0:Int)<=(h:Int):=by omega
    have cM:¬((h:Int)<(s0:Int)):=by omega
    have cN:(0:Int)<=(s0:Int):=by omega
    have cO:¬((s0:Int)<0):=by omega
    have cP:(h:Int)<=(P:Int):=by omega
    by_cases cV:P=s0
    ·have cd:P-s0=0:=by omega
     have aL:=ap s.out;clear s;go_wp2_with fail;go_meet;exact⟨rfl,_,h,_,_,rfl,rfl,rfl,⟨a5,a6⟩,λbf=>absurd bf (by omega),aL.out⟩
    ·have cd:¬P=s0:=by omega
     have cQ:¬P-s0=0:=by omega
     have aL:=ap s.out;clear s;go_wp2_with fail;go_meet;exact⟨rfl,_,h,_,_,rfl,rfl,rfl,⟨a5,a6⟩,λ_ g e=>by simp only[gZ,Addr.mk.injEq]at e;rw[e.1],aL.out⟩
  case rest=>
  obtain⟨rfl,aA,h,cK,bD,rfl,rfl,rfl,⟨a5,a6⟩,bL,bs⟩:=hcut;clear aQ;obtain⟨aU,ai,am,al⟩:=bs.out;have V:=ap ai;have D:=ap am;have C:=ap al;have aO:=ap bL;clear bs ai am al bL;obtain⟨n,R⟩:∃n,h-s0=n:=⟨_,rfl⟩;rw[R]at D C ⊢;have cZ:n<=1000000:=by omega
  replace R:=ap R;go_wp2_with fail;go_loopw [22,23,73] (λ_ _ q bc=>∃(k:Nat),k<=n/\q=ab k/\Hid (aU k bc)) (λ_ _ q _=>n-(intOf q).toNat)
  case atStart=>exact⟨0,aM _,rfl,V.out⟩
  case round=>
  clear V;obtain⟨k,cj,rfl,A⟩:=hrel;by_cases aE:k<n
  ·obtain⟨bE,wt,aB,aC,t0,t1,t2,aG,aJ,aI,⟨bJ,cr,ct,cu,cv,cw,cx,cy⟩,a1,O⟩:=D.out k _ aE A.out;obtain rfl:=aO.out (by have:=R.out;omega) _ bJ;have cp:(0:Int)<=(k:Int):=by omega
   have cq:(k:Int)<(n:Int):=by omega
   clear D C A aO bJ;go_upto_region 17 with fail;generalize y:World.alloc _ _=f;have Q:Below wr.heap.size wr f:=by rw[<-y];exact aS _ _
   have v:f.heap[wr.heap.size]?=some (.cells #[af wt,ab aB,ab aC,ab t0,ab t1,af t2,ae aG aJ aI] 54):=by
    rw[<-y];exact aD _ _
   have d0:f.cell? ⟨wr.heap.size,0,none⟩=some (af wt):=ah v 0;clear cr ct cu cv cw cx cy y;by_cases S:wt=dV
   ·have bk:=ap (O.out.2 S);have d1:f.cell? ⟨wr.heap.size,1,none⟩=some (ab aB):=ah v 1;have d2:f.cell? ⟨wr.heap.size,2,none⟩=some (ab aC):=ah v 2;rw[S]at d0;unfold dV at d0;clear S O;have aN:=ap Q;have bz:=ap v;have bu:=ap a1;clear Q v a1;go_upto_region 19 with fail;generalize a3:World.alloc _ _=B;have aY:Below f.heap.size f B:=by rw[<-a3];exact aS _ _
    have a0:B.heap[f.heap.size]?=some (.cells #[ab aB,ab aC] 44):=by
     rw[<-a3];exact aD _ _
    have Z:=dv aY bz.out;obtain⟨b3,b2,b4,cH,da,cI,c0,ch,cT,N⟩:=JR bk.out bu.out (aN.out.trans (aY.mono aN.out.size));have f0:B.cell? ⟨f.heap.size,0,none⟩=some (ab aB):=ah a0 0;have f1:B.cell? ⟨f.heap.size,1,none⟩=some (ab aC):=ah a0 1;have d3:B.cell? ⟨wr.heap.size,3,none⟩=some (ab t0):=ah Z 3;have d4:B.cell? ⟨wr.heap.size,4,none⟩=some (ab t1):=ah Z 4;have d5:B.cell? ⟨wr.heap.size,5,none⟩=some (af t2):=ah Z 5;have d6:B.cell? ⟨wr.heap.size,6,none⟩=some (ae aG aJ aI):=ah Z 6;clear a3 aY a0 Z bk bu aN bz d0 d1 d2;generalize f.heap.size=c9 at*;generalize wr.heap.size=a7 at*
    go_wp2_with (first
     | (at_builtin;refine wpList_append_lies _ rfl _ _ 29 rfl w.heap.size 31 an _ 4 56 underlying29 aw.out.1 aw.out.2.1 aw.out.2.2.1 aw.out.2.2.2 rfl (by decide) (ae b3 b2 b4) b2 cH rfl N.out.1 ⟨B.heap.size,0,none⟩ 1 1 [ab t0,ab t1,af t2,ae aG aJ aI] rfl rfl (World.news_of_block (cs:= #[ab t0,ab t1,af t2,ae aG aJ aI]) (t:=31) (fr:=(0,0)) N.out.2.1) (by simp[Value.oneCell']) (by decide) (by unfold maxLen;omega) (by omega) ch _ rfl ?_;intro ce aX au bP bM bK ck;obtain⟨z,cU,bG⟩:=N.out.2.2 ce aX au bM bP bK;have b8:=ap bG;clear bP bM bK ck bG))
    go_roundw
    case rel=>exact⟨k+1,by omega,by go_num,b8.out⟩
    case measure=>simp[intOf];omega
   ·have aR:=ap (O.out.1 S _ Q);have c1:(wt.toList==[115,101,110,100])=false:=Ny S;clear S O Q v a1;go_wp2_with fail;go_roundw
    case rel=>exact⟨k+1,by omega,by go_num,aR.out⟩
    case measure=>simp[intOf];omega
  obtain rfl:k=n:=by omega
  have aP:=ap (C.out _ A.out);unfold QF at aP;clear D C A aO R aE;go_wp2_with fail;refine aP.out.mono ?_;rintro e bb ⟨cJ,az,bC,rfl,s⟩;clear aP;obtain⟨aa,ad,aF⟩:=s.out;have d0:bb.cell? ⟨r,0,none⟩=some (ab (l j)):=ah aa 0;by_cases M:l j=2;rotate_left
  ·have ca:(l j==2)=false:=by simpa using M
   have U:=ap (ad (aj M));clear s aa ad aF M;go_wp2_with fail;go_roundw
   case rel=>exact⟨j+1,az,by omega,rfl,by go_num,U.out⟩
   case measure=>simp[intOf];omega
  by_cases a2:a8=0;rotate_left
  ·have ca:(a8==0)=false:=by simpa using a2
   have U:=ap (ad (ak a2));rw[M]at d0;clear s aa ad aF M;go_wp2_with fail;go_roundw
   case rel=>exact⟨j+1,az,by omega,rfl,by go_num,U.out⟩
   case measure=>simp[intOf];omega
  subst a2;have bn:=ap (aF M rfl);rw[M]at d0;have bx:=ap aa;clear s aa ad aF M;go_upto_if 104 with fail;go_cut [50]from 50 to 224 (λa9 bd=>a9=ab j/\bd=bb)
  case first=>
   clear bx bn;go_wp2_with fail;go_meet;exact⟨rfl,rfl⟩
  case rest=>
  obtain⟨rfl,rfl⟩:=hcut;clear d0;refine Lz d m r (l j) (u j) (p j) (E j) (F j) (G j) (H j) (J j) (I j) b9 bB Y b5 bZ b1 b0 (K d m (j+1) az) _ cg cl bx bn (by assumption) (λwr U=>?_);go_wp2_with fail;go_roundw
  case rel=>exact⟨j+1,az,by omega,rfl,by go_num,U.out⟩
  case measure=>simp[intOf];omega
 obtain rfl:j=i:=by omega
 have bp:=ap (T.out _ _ _ _ bU ax.out);clear X T ax ci bO;go_wp2_with fail;refine bp.out.mono ?_;rintro e ba ⟨a,n,c,rfl,R,bh⟩;clear bp;obtain⟨aU,ai,am,al⟩:=bh.out;have V:=ap ai;have D:=ap am;have C:=ap al;clear bh ai am al;go_wp2_with fail;go_loopw [32,228] (λ_ q bc=>∃(k:Nat),k<=n/\q=ab k/\Hid (aU k bc)) (λ_ q _=>n-(intOf q).toNat)
 case atStart=>exact⟨0,aM _,rfl,V.out⟩
 case round=>
 clear V;obtain⟨k,cj,rfl,A⟩:=hrel;by_cases aE:k<n;rotate_left
 ·obtain rfl:k=n:=by omega
  have aR:=ap (C.out _ A.out);clear D C A;go_wp2_with fail
  go_ret
  exact⟨rfl,aR.out⟩
 obtain⟨g,o,x,be,⟨rfl,aW,Y⟩,O⟩:=D.out _ _ aE A.out;have cp:(0:Int)<=(k:Int):=by omega
 have cq:(k:Int)<(n:Int):=by omega
 clear D C A;obtain⟨gk,cz,b4,b3,⟨cR,bE⟩,bq⟩:=O.out;go_upto_region 42 with fail;generalize y:World.alloc _ _=f;have Q:Below wr.heap.size wr f:=by rw[<-y];exact aS _ _
 have v:f.heap[wr.heap.size]?=some (.cells #[ab x,ab be] 44):=by
  rw[<-y];exact aD _ _
 obtain⟨bQ,cW,cX⟩:=bq f.drew Q.drew;have c5:f.cell? ⟨wr.heap.size,0,none⟩=some (ab x):=ah v 0;have c6:f.cell? ⟨wr.heap.size,1,none⟩=some (ab be):=ah v 1;have cY:¬(cz:Int)<=(gk:Int):=by omega
 have b7:=ap bQ;clear y Q v O bq aW Y bQ;generalize wr.heap.size=a7 at*;go_region_held3 (λW=>W.cell? ⟨a7,0,none⟩=some (Value.int .i64 x)/\W.cell? ⟨a7,1,none⟩=some (Value.int .i64 be)) ((go_keep;done)) (fail)
 all_goals
  go_wp2_with fail;exact⟨⟨k+1,by omega,by go_num,b7.out⟩,by simp[intOf];omega⟩
end Go.Proofs.YtmmahddlcldmiaaGreat
