/- What is proved here: how TopRows goes. No condition but what its calls are said to answer. -/
import Derived.Test.YtmmahddlcldmiaaGreatR14
namespace Go.Proofs.YtmmahddlcldmiaaGreat
open Go.RowKit
set_option maxRecDepth 100000
set_option maxHeartbeats 8000000
theorem Fb(bc:au)(be bd:Nat)(room:Int)(sa:au)(sl sc:Nat)(bk:au)(h bJ:Nat)(i q k s t:Nat->Int)(u:Nat->ap)(v:Nat->au)(y x:Nat->Nat)(w:ag)(a2:Nat->ag->Prop)(K:Nat->Nat->Nat->Nat->ag->Prop)(bV:h<=1048576)(a0:Hid (ao 5 #[] w λe w'=>e=.returned (.bool true)/\am w w'))(HB:Hid (∀W,am w W->ao 6 #[ae bc be bd,ab room,ae sa sl sc] W λe w'=>(e=.returned (.pointer none)/\Hid (am w w'))\/∃d,e=.returned (aH d)/\Hid (am w w'/\a2 d w')))(T:Hid (∀d W,a2 d W->K d W.heap.size 0 0 ((W.alloc (.map #[] 0)).alloc (.map #[] 0))))(J:Hid (∀d m j s0 W,j<h->h<=80->K d m j s0 W->∃g o,(bk=some ⟨g,o,none⟩/\ah W g (o+j*7) (ab (i j))/\ah W g (o+j*7+1) (ab (q j))/\ah W g (o+j*7+2) (ab (k j))/\ah W g (o+j*7+3) (ab (s j))/\ah W g (o+j*7+4) (ab (t j))/\ah W g (o+j*7+5) (af (u j))/\ah W g (o+j*7+6) (ae (v j) (y j) (x j)))/\Hid (∀ar,am W ar->ar.heap[W.heap.size]?=some (.cells #[ab (i j),ab (q j),ab (k j),ab (s j),ab (t j),af (u j),ae (v j) (y j) (x j)] 33)->Qn w.heap.size d m W.heap.size s0 (i j) (q j) (k j) (.agg #[ab (i j),ab (q j),ab (k j),ab (s j),ab (t j),af (u j),ae (v j) (y j) (x j)]) (.cells #[ab (i j),ab (q j),ab (k j),ab (s j),ab (t j),af (u j),ae (v j) (y j) (x j)] 33) (K d m (j+1)) ar)))(F:Hid (∀d m s0 W,h<=80->K d m h s0 W->ao 14 #[aH d] W λe w'=>∃a n c,e=.returned (ae a n c)/\n<=1000000/\Hid (Q1 w m n a w'))):ao 4 #[ae bc be bd,ab room,ae sa sl sc,ae bk h bJ] w λe w'=>e=.returned (.bool true)/\am w w':=by
 go_enter Tryz.func4,Tryz.ntmps4;go_wp2_with fail;refine a0.out.mono ?_;rintro e b0 ⟨rfl,aL⟩;have aQ:=aq aL;clear a0 aL;go_wp2_with fail;refine(HB.out _ aQ.out).mono ?_;clear HB aQ;rintro e bH (⟨rfl,al⟩|⟨d,rfl,R⟩)
 ·have bB:=IQ;clear T J F;go_wp2_with fail
  go_ret
  exact⟨rfl,al.out⟩
 have bB:=NQ d;by_cases bb:h<=80;rotate_left
 ·have bu:(80:Int)<(h:Int):=by omega
  have al:=aq R.out.1;clear T J F R;go_wp2_with fail
  go_ret
  exact⟨rfl,al.out⟩
 have bu:¬(80:Int)<(h:Int):=by omega
 have bz:= @lq Tryz.prog;have aX:=aq (T.out _ _ R.out.2);clear T R;go_wp2_with fail;generalize bH.heap.size=m at*;go_loopw [12,14,15,16,17,18,19,20,22,23,24,25,26,27,28,29,30,50] (λbD _ _ _ _ _ _ _ _ _ _ _ _ _ _ _ _ aA wr=>∃(j s0:Nat),j<=h/\bD=ab s0/\aA=ab j/\Hid (K d m j s0 wr)) (λ_ _ _ _ _ _ _ _ _ _ _ _ _ _ _ _ _ aA _=>h-(intOf aA).toNat)
 case atStart=>exact⟨0,0,aM _,rfl,rfl,aX.out⟩
 case round=>
 clear aX bz;obtain⟨j,s0,bw,rfl,rfl,S⟩:=hrel;by_cases a9:j<h
 ·obtain⟨g,o,⟨rfl,bp,av,B,a4,bq,br,bs⟩,aT⟩:=J.out d m j s0 _ a9 bb S.out;have bW:(0:Int)<=(j:Int):=by omega
  have bX:(j:Int)<(h:Int):=by omega
  clear J S F;go_upto_region 11 with fail;generalize az:World.alloc _ _=aG;have a6:aG.heap[wr.heap.size]?=some (.cells #[ab (i j),ab (q j),ab (k j),ab (s j),ab (t j),af (u j),ae (v j) (y j) (x j)] 33):=by
   rw[<-az];exact aD _ _
  have Z:=aq (aT.out aG (by rw[<-az];exact aS _ _) a6);clear az a6 aT bp av B a4 bq br bs;generalize wr.heap.size=l at*;unfold Qn at Z;go_wp2_with fail;refine Z.out.mono ?_;rintro e bI ⟨bm,a3,av,rfl,bv,aO⟩;clear Z;obtain⟨a7,a5⟩:=aO.out;have aZ:=aq a5;have d2:ah bI l 2 (ab (k j)):=ai a7 2;clear aO a7 a5;go_wp2_with fail;refine aZ.out.mono ?_;rintro e bj ⟨bY,y0,y1,y2,ya,yl,yc,bf,bh,bg,bi,rfl,bx,X⟩;clear aZ d2;go_upto_region 13 with fail;generalize ba:World.alloc _ _=r;have ax:am bj r:=by rw[<-ba];exact aS _ _
  have z:=dp ax X.out.1;have aV:=aq (X.out.2 r ax);have d0:ah r l 0 (ab (i j)):=ai z 0;have d1:ah r l 1 (ab (q j)):=ai z 1;have d2:ah r l 2 (ab (k j)):=ai z 2;have d3:ah r l 3 (ab (s j)):=ai z 3;have d4:ah r l 4 (ab (t j)):=ai z 4;have d5:ah r l 5 (af (u j)):=ai z 5;have d6:ah r l 6 (ae (v j) (y j) (x j)):=ai z 6;clear ba ax z X;generalize bj.heap.size=bZ at*;go_wp2_with fail;refine aV.out.mono ?_;rintro e b1 ⟨aE,rfl,aP⟩;have ad:=aq aP.out;clear aV aP d0 d1 d2 d3 d4 d5 d6;go_upto_region 14 with fail;go_cut [50,71,72,73]from 50 to 224 (λaF bE bF bG aJ=>aF=ab j/\∃L f b aw,bE=ae b (f-s0) aw/\bF=ab ((f-s0:Nat):Int)/\bG=ab 0/\(s0<=f/\f<=1000000)/\(s0<f->∀g,L=some ⟨g,0,none⟩->b=some ⟨g,s0*7,none⟩)/\Hid (Q0 w.heap.size d m l (.cells #[ab (i j),ab (q j),ab (k j),ab (s j),ab (t j),af (u j),ae (v j) (y j) (x j)] 33) (i j) (q j) (k j) a3 s0 f L aE bi bf bh bg (K d m (j+1)) aJ))
  case first=>
   go_wp2_with fail;refine ad.out.mono ?_;rintro e aI ⟨L,f,B,rfl,⟨aB,aC,bC⟩,p⟩;clear ad;rcases bC with⟨rfl,rfl,rfl⟩|⟨⟨bR,rfl⟩,bT⟩
   ·obtain rfl:s0=0:=by omega
    go_wp2_with fail;go_meet;exact⟨rfl,none,0,none,0,rfl,rfl,rfl,⟨by omega,by omega⟩,λaK=>absurd aK (Nat.lt_irrefl _),p.out⟩
   ·have bL:(s0:Int)<=(f:Int):=by omega
    have bM:¬((f:Int)<(s0:Int)):=by omega
    have bN:(0:Int)<=(s0:Int):=by omega
    have bO:¬((s0:Int)<0):=by omega
    have bP:(f:Int)<=(B:Int):=by omega
    by_cases bU:B=s0
    ·have bt:B-s0=0:=by omega
     have Y:=aq p.out;clear p;go_wp2_with fail;go_meet;exact⟨rfl,_,f,_,_,rfl,rfl,rfl,⟨aB,aC⟩,λaK=>absurd aK (by omega),Y.out⟩
    ·have bt:¬B=s0:=by omega
     have bQ:¬B-s0=0:=by omega
     have Y:=aq p.out;clear p;go_wp2_with fail;go_meet;exact⟨rfl,_,f,_,_,rfl,rfl,rfl,⟨aB,aC⟩,λ_ g e=>by simp only[gU,Addr.mk.injEq]at e;rw[e.1],Y.out⟩
  case rest=>
  obtain⟨rfl,L,f,bo,aw,rfl,rfl,rfl,⟨aB,aC⟩,a8,aY⟩:=hcut;clear ad;obtain⟨an,O,Q,P⟩:=aY.out;have I:=aq O;have E:=aq Q;have D:=aq P;have aR:=aq a8;clear aY O Q P a8;obtain⟨n,C⟩:∃n,f-s0=n:=⟨_,rfl⟩;rw[C]at E D ⊢;have bA:n<=1000000:=by omega
  replace C:=aq C;go_wp2_with fail;refine IP w.heap.size m s0 n L bo aw an _ bA (aq λbS=>aR.out (by have:=C.out;omega)) I E (λ_ _ _ _ _ _ _ _ _ _ _ _ _ _ _ _ _ _ _ _ _ _ _ _ wr H=>?_);have aa:=aq (D.out _ H.out);clear I E D H aR C;unfold QE at aa;go_wp2_with fail;refine aa.out.mono ?_;rintro e aI ⟨bK,U,a4,rfl,p⟩;clear aa;obtain⟨M,N,V⟩:=p.out;have d0:ah aI l 0 (ab (i j)):=ai M 0;by_cases A:i j=2;rotate_left
  ·have bn:(i j==2)=false:=by simpa using A
   have G:=aq (N (aj A));clear p M N V A;go_wp2_with fail;go_roundw
   case rel=>exact⟨j+1,U,by omega,rfl,by go_num,G.out⟩
   case measure=>simp[intOf];omega
  by_cases ay:aE=0;rotate_left
  ·have bn:(aE==0)=false:=by simpa using ay
   have G:=aq (N (ak ay));rw[A]at d0;clear p M N V A;go_wp2_with fail;go_roundw
   case rel=>exact⟨j+1,U,by omega,rfl,by go_num,G.out⟩
   case measure=>simp[intOf];omega
  subst ay;have aU:=aq (V A rfl);rw[A]at d0;have a1:=aq M;clear p M N V A;go_upto_if 104 with fail;go_cut [50]from 50 to 224 (λaF aJ=>aF=ab j/\aJ=aI)
  case first=>
   clear a1 aU;go_wp2_with fail;go_meet;exact⟨rfl,rfl⟩
  case rest=>
  obtain⟨rfl,rfl⟩:=hcut;clear d0;refine Ly d m l (i j) (q j) (k j) (s j) (t j) (u j) (v j) (y j) (x j) bm a3 av bi bf bh bg (K d m (j+1) U) _ bv bx a1 aU (by assumption) (λ_ _ _ _ _ _ _ _ _ _ _ _ _ _ _ _ _ _ _ _ _ _ _ _ _ _ _ _ _ _ _ _ _ _ _ _ _ _ _ _ _ _ _ _ _ _ _ _ _ _ _ _ _ _ _ _ _ _ _ _ _ _ _ _ _ _ _ _ _ _ _ _ _ _ _ _ _ _ _ _ _ _ _ _ _ _ _ _ _ _ _ _ _ _ _ _ _ _ _ _ _ _ _ _ _ _ _ _ _ _ _ _ _ _ _ _ _ _ _ _ _ _ _ _ _ _ _ wr G=>?_);go_wp2_with fail;go_roundw
  case rel=>exact⟨j+1,U,by omega,rfl,by go_num,G.out⟩
  case measure=>simp[intOf];omega
 obtain rfl:j=h:=by omega
 have aW:=aq (F.out _ _ _ _ bb S.out);clear J F S bw a9;go_wp2_with fail;refine aW.out.mono ?_;rintro e aG ⟨a,n,c,rfl,C,aN⟩;clear aW;obtain⟨an,O,Q,P⟩:=aN.out;have I:=aq O;have E:=aq Q;have D:=aq P;clear aN O Q P;go_wp2_with fail;refine IR m n a c an _ C I E (λ_ _ _ _ _ _ _ _ _ _ _ _ _ _ _ wr H=>?_);have bl:=aq (D.out _ H.out);clear I E D H;go_wp2_with fail
 go_ret
 exact⟨rfl,bl.out⟩
end Go.Proofs.YtmmahddlcldmiaaGreat
