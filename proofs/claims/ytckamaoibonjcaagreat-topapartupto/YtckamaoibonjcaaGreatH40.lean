/- What is proved here: plain facts and contracts that the claimed theorem stands on. No condition but those that each names. -/
import Derived.Test.YtckamaoibonjcaaGreatH39
namespace Go.Proofs.YtckamaoibonjcaaGreat
open Go.RowKit
set_option maxRecDepth 100000
set_option maxHeartbeats 8000000
theorem Bk(g:Nat)(j:Option Nat)(a:Int)(w:World)(t:g<w.heap.size)(l:Hid (w.cell? ⟨g,3,none⟩=some (.map j)))(m:Hid (∀W,ai w W->(Instr.lookup 62 (.map j) (ab a) true).run Tryz.prog W=.ok (.tuple #[.pointer none,.bool false]) W)):ak 7 #[.pointer (some ⟨g,0,none⟩),ab a] w λe w'=>e=.returned (.tuple #[ae ⟨#[]⟩,.agg #[ab 0,ab 0,ae ⟨#[]⟩,.slice none 0 0],.slice none 0 0,ab 4])/\ai w w':=by
 go_enter Tryz.func7,Tryz.ntmps7;go_upto_region 1 with fail;generalize i:w.alloc _=c;have HB:Hid (ai w c):=by
  rw[<-i];exact(am _ _).alloc (aj _) _
 have d:c.heap[w.heap.size]?=some (.cells #[ab 0,ab 0,ae ⟨#[]⟩,.slice none 0 0] 30):=by
  rw[<-i];exact az _ _
 clear i;have B:=m.out _ HB.out;have u:c.cell? ⟨g,3,none⟩=some (.map j):=(HB.out.cell (p:=⟨g,3,none⟩) t).trans l.out;clear m l;have k:Hid (ai w (cG c w.heap.size 0 (ab 0) (ab 0) (ae ⟨#[]⟩) (.slice none 0 0))):=(dp (o:=0) (v0:=ab 0) (v1:=ab 0) (v2:=ae ⟨#[]⟩) (v3:=.slice none 0 0) HB.out (aj _));have f:=ao (rI d (ab 0) (ab 0) (ae ⟨#[]⟩) (.slice none 0 0));obtain⟨b,h⟩:∃b,b=w.heap.size:=⟨_,rfl⟩;rw[<-h]at d f k ⊢;have s:=ao h;clear h HB;have C:c.cell? ⟨b,0,none⟩=some (ab 0):=af d 0;have D:c.cell? ⟨b,1,none⟩=some (ab 0):=af d 1;have E:c.cell? ⟨b,2,none⟩=some (ae ⟨#[]⟩):=af d 2;have F:c.cell? ⟨b,3,none⟩=some (.slice none 0 0):=af d 3;have x:c.frozen? ⟨b,0,none⟩=false:=by simp[World.frozen?,d]
 have y:c.frozen? ⟨b,1,none⟩=false:=by simp[World.frozen?,d]
 have z:c.frozen? ⟨b,2,none⟩=false:=by simp[World.frozen?,d]
 have A:c.frozen? ⟨b,3,none⟩=false:=by simp[World.frozen?,d]
 clear d;go_wp2_with fail;have n:(cG c b 0 (ab 0) (ab 0) (ae ⟨#[]⟩) (.slice none 0 0)).cell? ⟨b,0,none⟩=some (ab 0):=af f.out 0;have d1:(cG c b 0 (ab 0) (ab 0) (ae ⟨#[]⟩) (.slice none 0 0)).cell? ⟨b,1,none⟩=some (ab 0):=af f.out 1;have q:(cG c b 0 (ab 0) (ab 0) (ae ⟨#[]⟩) (.slice none 0 0)).cell? ⟨b,2,none⟩=some (ae ⟨#[]⟩):=af f.out 2;have r:(cG c b 0 (ab 0) (ab 0) (ae ⟨#[]⟩) (.slice none 0 0)).cell? ⟨b,3,none⟩=some (.slice none 0 0):=af f.out 3;simp only[cG,cP]at n d1 q r;exact ar (v:=.tuple #[ae ⟨#[]⟩,.agg #[ab 0,ab 0,ae ⟨#[]⟩,.slice none 0 0],.slice none 0 0,ab 4]) (by simp[results,Tryz.results7,go_sem,n,d1,q,r]) rfl ⟨rfl,s.out▸k.out⟩
theorem aX.procN{p:kJ}{s:Sy}{d:fS}{w:World}(c:aX p s d w){a:Int}(g:s.get a=none):ak 7 #[.pointer (some ⟨p.b,0,none⟩),ab a] w λe w'=>e=.returned (.tuple #[ae ⟨#[]⟩,.agg #[ab 0,ab 0,ae ⟨#[]⟩,.slice none 0 0],.slice none 0 0,ab 4])/\ai w w':=by
 refine Bk p.b d.po a w c.lo.2 c.cells.2.2.2 λi f=>?_;have h:cN d.l a=none:=by
  have:=c.alive a;rw[g]at this;simpa using this
 have:=(c.later f).look a true;rw[if_pos rfl,h]at this;exact this
theorem GG(n m:Int)(b:0<m)(g:m<=1000000)(w:World):ak 13 #[ab n,ab m] w λe w'=>∃r,e=.returned (ab r)/\0<=r/\r<m/\w'=w:=by
 have h:¬m=0:=by omega
 have d:n.tmod m<m:=Int.tmod_lt_of_pos n b;have f: -m<n.tmod m:=by
  have:=Int.lt_tmod_of_pos n b;omega
 go_enter Tryz.func13,Tryz.ntmps13;by_cases a:n.tmod m<0
 ·have c:decide (n.tmod m<0)=true:=by simpa using a
  have e:wrap64 (n.tmod m+m)=n.tmod m+m:=by unfold wrap64;omega
  go_wp2_with fail
  go_ret
  exact⟨_,rfl,by omega,by omega,rfl⟩
 ·have c:decide (n.tmod m<0)=false:=by simpa using a
  go_wp2_with fail
  go_ret
  exact⟨_,rfl,by omega,by omega,rfl⟩
def OG(p o L:Nat)(d h:Int)(nm n:ByteArray)(y q:Value)(ma:Option Addr)(l j:Nat)(i:Option Addr)(m k:Nat)(P:World->Prop)(W:World):Prop:=
 (d=0->h=0->n=nm/\ak 14 #[y,q] W λa e=>a=.returned (.bool true)/\Hid (ak 15 #[.slice ma l j,.slice i m k] e λa f=>a=.returned (.bool true)/\Hid (P f)))/\
 (d=0->h≠0->ak 10 #[.pointer (some ⟨p,0,none⟩)] W λa e=>∃g b c,a=.returned (.slice (some ⟨g,0,none⟩) b c)/\(L<b/\b<=c)/\Hid (ak 9 #[.slice (some ⟨g,L*7,none⟩) (b-L) (c-L),.func (Fn.func 16) #[] #[.pointer (some ⟨o,0,none⟩)]] e λa f=>a=.returned (.bool true)/\Hid (P f)))/\(d≠0->P W)
def N9(b i:Nat)(p:Int)(x:Value)(P:World->Prop)(W:World):Prop:=
 ak 7 #[.pointer (some ⟨b,0,none⟩),ab p] W λa j=>∃s y0 y1 y2 ya yl yc l q n u,a=.returned (.tuple #[ae s,.agg #[ab y0,ab y1,ae y2,.slice ya yl yc],.slice l q n,ab u])/\Hid (ai W j/\∀d,ai j d->
 ak 10 #[.pointer (some ⟨b,0,none⟩)] d λa f=>∃E h c,a=.returned (.slice E h c)/\h<=1000000/\Hid (ai d f/\∀e,d.heap[e]?=some (.cells #[ab y0,ab y1,ae y2,.slice ya yl yc] 30)->j.heap.size<=e->
 ak 8 #[.pointer (some ⟨b,0,none⟩),x] f λa g=>∃F,a=.returned (ab F)/\Hid ((g.heap[i]?=f.heap[i]? /\g.heap[e]?=f.heap[e]?)/\
 ak 7 #[.pointer (some ⟨b,0,none⟩),ab p] g λa w=>∃t y z A B D C m r o v,a=.returned (.tuple #[ae t,.agg #[ab y,ab z,ae A,.slice B D C],.slice m r o,ab v])/\Hid (ai g w/\∀k,ai w k->OG b i h u v s t (.agg #[ab y0,ab y1,ae y2,.slice ya yl yc]) (.agg #[ab y,ab z,ae A,.slice B D C]) l q n m r o P k))))
theorem Hh(a:Nat)(W:World):(binOp .eql 26 (.pointer (some ⟨a,0,none⟩)) (.pointer none)).run Tryz.prog W=.ok (.bool false) W:=by kernel_rfl
theorem BW(W:World):(binOp .eql 26 (.pointer none) (.pointer none)).run Tryz.prog W=.ok (.bool true) W:=by kernel_rfl
theorem BX(bn:Option Addr)(bp bo:Nat)(room:Int)(sa:Option Addr)(sl sc:Nat)(bu:Option Addr)(s b5:Nat)(bt:Int)(d i l S T:Nat->Int)(U:Nat->ByteArray)(V:Nat->Option Addr)(Y X:Nat->Nat)(w:World)(ar:Nat->Nat->World->Prop)(L:Nat->Int->Nat->Nat->World->Prop)(cp:s<=1048576)(x:Hid (ak 5 #[] w λe w'=>e=.returned (.bool true)/\ai w w'))(HB:Hid (∀W,ai w W->ak 6 #[.slice bn bp bo,ab room,.slice sa sl sc] W λe w'=>(e=.returned (.pointer none)/\Hid (ai w w'))\/∃b n,e=.returned (.pointer (some ⟨b,0,none⟩))/\n<=12/\Hid (ar b n w')))(K:Hid (∀b n W,ar b n W->ai w W))(A:Hid (∀b p f j W,L b p f j W->ai w W/\W.cell? ⟨f,0,none⟩=some (ab p)))(H:Hid (∀b n W,ar b n W->ak 12 #[.pointer (some ⟨b,0,none⟩)] W λe w'=>∃a c,e=.returned (.slice a n c)/\Hid (ar b n w'/\∀r:Int,0<=r->r<n->∃g o k,(a=some ⟨g,o,none⟩/\w'.cell? ⟨g,o+r.toNat,none⟩=some (ab k))/\Hid (∀aE,ai w' aE->aE.heap[w'.heap.size]?=some (.cells #[ab k] 3)->L b k w'.heap.size 0 aE))))(I:Hid (∀b p f j W,j<s->s<=80->L b p f j W->∃g o,(bu=some ⟨g,o,none⟩/\W.cell? ⟨g,o+j*7,none⟩=some (ab (d j))/\W.cell? ⟨g,o+j*7+1,none⟩=some (ab (i j))/\W.cell? ⟨g,o+j*7+2,none⟩=some (ab (l j))/\W.cell? ⟨g,o+j*7+3,none⟩=some (ab (S j))/\W.cell? ⟨g,o+j*7+4,none⟩=some (ab (T j))/\W.cell? ⟨g,o+j*7+5,none⟩=some (ae (U j))/\W.cell? ⟨g,o+j*7+6,none⟩=some (.slice (V j) (Y j) (X j)))/\ Hid (∀aD,ai W aD->L b p f (j+1) aD/\(¬(d j=2/\l j=p\/d j≠2/\i j=p)->N9 b f p (.agg #[ab (d j),ab (i j),ab (l j),ab (S j),ab (T j),ae (U j),.slice (V j) (Y j) (X j)]) (L b p f (j+1)) aD)))):ak 4 #[.slice bn bp bo,ab room,.slice sa sl sc,.slice bu s b5,ab bt] w λe w'=>e=.returned (.bool true)/\ai w w':=by
 go_enter Tryz.func4,Tryz.ntmps4;go_wp2_with fail;refine x.out.mono ?_;rintro e cC ⟨rfl,aT⟩;have a3:=ao aT;clear x aT;go_wp2_with fail;refine(HB.out _ a3.out).mono ?_;clear HB a3;rintro e cD (⟨rfl,ay⟩|⟨b,n,rfl,cl,an⟩)
 ·have bR:=BW;clear I H K A;go_wp2_with fail
  go_ret
  exact⟨rfl,ay.out⟩
 have bR:=Hh b;by_cases bT:s<=80;rotate_left
 ·have bO:(80:Int)<(s:Int):=by omega
  have ay:=ao (K.out _ _ _ an.out);clear I H an K A;go_wp2_with fail
  go_ret
  exact⟨rfl,ay.out⟩
 have bO:¬(80:Int)<(s:Int):=by omega
 have a0:=ao (H.out _ _ _ an.out);clear an;go_wp2_with fail;refine a0.out.mono ?_;rintro e cE ⟨b7,bb,rfl,ap⟩;clear a0;by_cases bd:n=0
 ·subst bd;have bD:=ao (K.out _ _ _ ap.out.1);clear I H ap K A;go_wp2_with fail
  go_ret
  exact⟨rfl,bD.out⟩
 have ci:((n:Int)==0)=false:=by simpa using bd
 have a1:=ao (H.out _ _ _ ap.out.1);clear H ap K;go_wp2_with fail;refine a1.out.mono ?_;rintro e b1 ⟨b8,bc,rfl,aX⟩;clear a1;go_wp2_with fail;refine(GG bt n (by omega) (by omega) b1).mono ?_;rintro e b2 ⟨r,rfl,bU,bV,rfl⟩;obtain⟨g,o,p,⟨rfl,aI⟩,aY⟩:=aX.out.2 r bU bV;clear aX;go_upto_region 8 with fail;generalize F:World.alloc _ _=b3;have a6:=ao (aY.out b3 (by rw[<-F];exact(am _ _).alloc (aj _) _) (by rw[<-F];exact az _ _));clear F aY aI;generalize b2.heap.size=f at*;go_wp2_with fail;go_loopw [15,16,17,18,19,20,21,22,23,24,55] (λ_ _ _ _ _ _ _ _ _ _ aQ wr=>∃(j:Nat),j<=s/\aQ=ab j/\Hid (L b p f j wr)) (λ_ _ _ _ _ _ _ _ _ _ aQ _=>s-(intOf aQ).toNat)
 case atStart=>exact⟨0,aF _,rfl,a6.out⟩
 case round=>
 clear a6;obtain⟨j,ck,rfl,x⟩:=hrel;by_cases bP:j<s;rotate_left
 ·have bC:=ao (A.out _ _ _ _ _ x.out).1;clear I x A;go_wp2_with fail
  go_ret
  exact⟨rfl,bC.out⟩
 have O:=(A.out _ _ _ _ _ x.out).2;have bj:=fh _ _ O;obtain⟨g,o,⟨rfl,aI,bG,bH,bb,bc,bI,bJ⟩,a4⟩:=I.out b p f j _ bP bT x.out;have cq:(0:Int)<=(j:Int):=by omega
 have cr:(j:Int)<(s:Int):=by omega
 clear I x A;go_upto_region 11 with fail;generalize F:World.alloc _ _=h;have aJ:ai wr h:=by rw[<-F];exact(am _ _).alloc (aj _) _
 have v:h.heap[wr.heap.size]?=some (.cells #[ab (d j),ab (i j),ab (l j),ab (S j),ab (T j),ae (U j),.slice (V j) (Y j) (X j)] 32):=by
  rw[<-F];exact az _ _
 have Q:=ao (a4.out h aJ);replace O:h.cell? ⟨f,0,none⟩=some (ab p):=(aJ.cell (p:=⟨f,0,none⟩) bj).trans O;have bk:f<h.heap.size:=fh _ _ O;clear aJ bj;generalize wr.heap.size=r at*;have B:h.cell? ⟨r,0,none⟩=some (ab (d j)):=af v 0;have d1:h.cell? ⟨r,1,none⟩=some (ab (i j)):=af v 1;have N:h.cell? ⟨r,2,none⟩=some (ab (l j)):=af v 2;have C:h.cell? ⟨r,3,none⟩=some (ab (S j)):=af v 3;have Z:h.cell? ⟨r,4,none⟩=some (ab (T j)):=af v 4;have aa:h.cell? ⟨r,5,none⟩=some (ae (U j)):=af v 5;have ad:h.cell? ⟨r,6,none⟩=some (.slice (V j) (Y j) (X j)):=af v 6;have aq:=ao v;clear F v a4 aI bG bH bb bc bI bJ;go_cut [55,78]from 55 to 139 (λbW bX b4=>bW=ab j/\bX=.bool (decide (d j=2/\l j=p\/d j≠2/\i j=p))/\b4=h)
 case first=>
  clear Q aq C Z aa ad;by_cases u:d j=2
  ·have bF:(d j==2)=true:=by simpa using u
   rw[u]at B;by_cases m:l j=p
   ·have aG:(l j==p)=true:=by simpa using m
    go_wp2_with fail;go_meet
    case rel=>exact⟨rfl,by simp[u,m],rfl⟩
   ·have aG:(l j==p)=false:=by simpa using m
    go_wp2_with fail;go_meet
    case rel=>exact⟨rfl,by simp[u,m],rfl⟩
  ·have bF:(d j==2)=false:=by simpa using u
   by_cases m:i j=p
   ·have aG:(i j==p)=true:=by simpa using m
    go_wp2_with fail;go_meet
    case rel=>exact⟨rfl,by simp[u,m],rfl⟩
   ·have aG:(i j==p)=false:=by simpa using m
    go_wp2_with fail;go_meet
    case rel=>exact⟨rfl,by simp[u,m],rfl⟩
 case rest=>
 obtain⟨rfl,rfl,bm⟩:=hcut;obtain rfl:h=wc:=bm.symm;clear bm;by_cases ah:d j=2/\l j=p\/d j≠2/\i j=p
 ·have aA:=ao Q.out.1;have ag:decide (d j=2/\l j=p\/d j≠2/\i j=p)=true:=gj ah;rw[ag];clear Q aq B d1 N C Z aa ad ag ah;go_wp2_with fail;go_roundw
  case rel=>exact⟨j+1,by omega,by go_num,aA.out⟩
  case measure=>simp[intOf];omega
 have a2:=ao (Q.out.2 ah);have ag:decide (d j=2/\l j=p\/d j≠2/\i j=p)=false:=kj ah;rw[ag];clear Q ag ah
 ·skip
  go_wp2_with fail;refine a2.out.mono ?_;rintro e av ⟨cA,y0,y1,y2,ya,yl,yc,cu,cy,cw,br,rfl,aZ⟩;clear a2 B d1 N C Z aa ad;go_upto_region 13 with fail;generalize G:World.alloc _ _=aS;have D:ai av aS:=by rw[<-G];exact(am _ _).alloc (aj _) _
  have t:aS.heap[av.heap.size]?=some (.cells #[ab y0,ab y1,ae y2,.slice ya yl yc] 30):=by
   rw[<-G];exact az _ _
  obtain⟨aN,bi⟩:=aZ.out;have R:=ao (bi aS D);have ax:=ao (aN.trans (D.mono aN.size));have aB:=ao t;have bE:=ao (aj av.heap.size);generalize bS:av.heap.size=al at*;clear G D t aZ aN bi;go_wp2_with fail;refine R.out.mono ?_;rintro e z ⟨b6,M,b9,rfl,cj,aU⟩;clear R;obtain⟨aL,be⟩:=aU.out;have a5:=ao (be al aB.out (aj _));have aK:=ax.out.trans (aL.mono ax.out.size);have bl:z.cell? ⟨f,0,none⟩=some (ab p):=(aK.cell (p:=⟨f,0,none⟩) bk).trans O;have y:=en aK aq.out;have a9:=ao (en aL aB.out);have B:z.cell? ⟨r,0,none⟩=some (ab (d j)):=af y 0;have d1:z.cell? ⟨r,1,none⟩=some (ab (i j)):=af y 1;have N:z.cell? ⟨r,2,none⟩=some (ab (l j)):=af y 2;have C:z.cell? ⟨r,3,none⟩=some (ab (S j)):=af y 3;have Z:z.cell? ⟨r,4,none⟩=some (ab (T j)):=af y 4;have aa:z.cell? ⟨r,5,none⟩=some (ae (U j)):=af y 5;have ad:z.cell? ⟨r,6,none⟩=some (.slice (V j) (Y j) (X j)):=af y 6;clear aU aL be aK y aq aB ax bE bS O bk;go_wp2_with fail;refine a5.out.mono ?_;rintro e bY ⟨cB,rfl,aV⟩;obtain⟨⟨u,m⟩,bf⟩:=aV.out;have bQ:bY.cell? ⟨f,0,none⟩=some (ab p):=by
   rw[<-bl];simp only[World.cell?,u]
  have ba:=ao (m.trans a9.out);have a7:=ao bf;clear a5 aV u m bf a9 bl B d1 N C Z aa ad;go_wp2_with fail;refine a7.out.mono ?_;rintro e aR ⟨bq,bv,bw,bx,bz,bB,bA,cv,cz,cx,bs,rfl,aW⟩;clear a7 bQ;go_upto_region 16 with fail;generalize G:World.alloc _ _=q;have D:ai aR q:=by rw[<-G];exact(am _ _).alloc (aj _) _
  have t:q.heap[aR.heap.size]?=some (.cells #[ab bv,ab bw,ae bx,.slice bz bB bA] 30):=by
   rw[<-G];exact az _ _
  obtain⟨aM,bg⟩:=aW.out;have J:=ao (bg q D);have E:=en (aM.trans (D.mono aM.size)) ba.out;clear G D aW aM bg ba;generalize aR.heap.size=au at*;by_cases aO:br=0;rotate_left
  ·have cn:(br==0)=false:=by simpa using aO
   have aA:=ao (J.out.2.2 aO);clear J E t;go_wp2_with fail;go_roundw
   case rel=>exact⟨j+1,by omega,by go_num,aA.out⟩
   case measure=>simp[intOf];omega
  subst aO;by_cases aP:bs=0
  ·subst aP;obtain⟨rfl,bh⟩:=J.out.1 rfl rfl;have a8:=ao bh;have B:q.cell? ⟨al,0,none⟩=some (ab y0):=af E 0;have d1:q.cell? ⟨al,1,none⟩=some (ab y1):=af E 1;have N:q.cell? ⟨al,2,none⟩=some (ae y2):=af E 2;have C:q.cell? ⟨al,3,none⟩=some (.slice ya yl yc):=af E 3;have bK:q.cell? ⟨au,0,none⟩=some (ab bv):=af t 0;have bL:q.cell? ⟨au,1,none⟩=some (ab bw):=af t 1;have bM:q.cell? ⟨au,2,none⟩=some (ae bx):=af t 2;have bN:q.cell? ⟨au,3,none⟩=some (.slice bz bB bA):=af t 3;have cm:(bq.toList==bq.toList)=true:=by simp
   clear J bh E t;go_wp2_with fail;refine a8.out.mono ?_;rintro e bZ ⟨rfl,P⟩;clear a8 B d1 N C bK bL bM bN;go_wp2_with fail;refine P.out.mono ?_;rintro e b0 ⟨rfl,aw⟩;clear P;go_wp2_with fail;go_roundw
   case rel=>exact⟨j+1,by omega,by go_num,aw.out⟩
   case measure=>simp[intOf];omega
  ·have co:(bs==0)=false:=by simpa using aP
   have R:=ao (J.out.2.1 rfl aP);clear J E t;go_wp2_with fail;refine R.out.mono ?_;rintro e bZ ⟨ch,aC,aH,rfl,⟨cs,ct⟩,P⟩;clear R;have ca:(M:Int)<=(aC:Int):=by omega
   have cb:¬((aC:Int)<(M:Int)):=by omega
   have cc:(0:Int)<=(M:Int):=by omega
   have cd:¬((M:Int)<0):=by omega
   have ce:(aC:Int)<=(aH:Int):=by omega
   have cf:¬aH=M:=by omega
   have cg:¬aH-M=0:=by omega
   go_wp2_with fail;refine P.out.mono ?_;rintro e b0 ⟨rfl,aw⟩;clear P;go_wp2_with fail;go_roundw
   case rel=>exact⟨j+1,by omega,by go_num,aw.out⟩
   case measure=>simp[intOf];omega
theorem BZ(G:Option Addr)(I H:Nat)(room:Int)(sa:Option Addr)(sl sc:Nat)(nm t:Nat->ByteArray)(r s:Nat->Int)(xa:Nat->Option Addr)(u xc:Nat->Nat)(w:World)(x:Value->Int->World->Prop)(m:Nat->Nat->World->Prop)(R:Value->World->Prop)(Z:sl<=9223372036854775807)(E:Hid (ak 17 #[.slice G I H,ab room] w λe w'=>∃v b,e=.returned (.tuple #[v,ab b])/\Hid (x v b w')))(i:Hid (∀v b W,x v b W->(b≠0\/4<sl)->R (.pointer none) W))(p:Hid (∀v W,x v 0 W->sl<=4->∃a,v=.pointer (some ⟨a,0,none⟩)/\m a 0 W))(l:Hid (∀a j W,j<sl->m a j W->∃g o,(sa=some ⟨g,o,none⟩/\W.cell? ⟨g,o+j*5,none⟩=some (ae (nm j))/\W.cell? ⟨g,o+j*5+1,none⟩=some (ab (r j))/\W.cell? ⟨g,o+j*5+2,none⟩=some (ab (s j))/\W.cell? ⟨g,o+j*5+3,none⟩=some (ae (t j))/\W.cell? ⟨g,o+j*5+4,none⟩=some (.slice (xa j) (u j) (xc j)))/\Hid (∀F,ai W F->ak 19 #[.pointer (some ⟨a,0,none⟩),ae (nm j),.agg #[ab (r j),ab (s j),ae (t j),.slice (xa j) (u j) (xc j)]] F λe w'=>∃v b,e=.returned (.tuple #[ab v,ab b])/\Hid (m a (j+1) w'))))(h:Hid (∀a W,m a sl W->R (.pointer (some ⟨a,0,none⟩)) W)):ak 6 #[.slice G I H,ab room,.slice sa sl sc] w λe w'=>∃v,e=.returned v/\Hid (R v w'):=by
 go_enter Tryz.func6,Tryz.ntmps6;go_wp2_with fail;refine E.out.mono ?_;rintro e an ⟨v,b,rfl,d⟩;clear E;by_cases z:b=0;rotate_left
 ·have k:=ao (i.out _ _ _ d.out (ag z));have aa:(b==0)=false:=by simpa using z
  clear i p l h d;go_wp2_with fail
  go_ret
  exact⟨_,rfl,k.out⟩
 subst z;by_cases Q:sl<=4;rotate_left
 ·have k:=ao (i.out _ _ _ d.out (ah (by omega)));have S:(4:Int)<(sl:Int):=by omega
  clear i p l h d;go_wp2_with fail
  go_ret
  exact⟨_,rfl,k.out⟩
 obtain⟨a,rfl,y⟩:=p.out _ _ d.out Q;have C:=ao y;have S:¬(4:Int)<(sl:Int):=by omega
 clear i p d y;go_wp2_with fail;go_loopw [10,26] (λ_ B wr=>∃(j:Nat),j<=sl/\B=ab j/\Hid (m a j wr)) (λ_ B _=>sl-(intOf B).toNat)
 case atStart=>exact⟨0,aF _,rfl,C.out⟩
 case round=>
 clear C;obtain⟨j,y,rfl,q⟩:=hrel;by_cases T:j<sl
 ·obtain⟨g,o,⟨rfl,L,M,N,O,P⟩,D⟩:=l.out a j _ T q.out;have ad:(0:Int)<=(j:Int):=by omega
  have al:(j:Int)<(sl:Int):=by omega
  clear l h q;go_upto_region 7 with fail;generalize A:World.alloc _ _=c;have f:c.heap[wr.heap.size]?=some (.cells #[ae (nm j),ab (r j),ab (s j),ae (t j),.slice (xa j) (u j) (xc j)] 59):=by
   rw[<-A];exact az _ _
  have K:=ao (D.out c (by rw[<-A];exact(am _ _).alloc (aj _) _));generalize wr.heap.size=n at*;have U:c.cell? ⟨n,0,none⟩=some (ae (nm j)):=af f 0;have d1:c.cell? ⟨n,1,none⟩=some (ab (r j)):=af f 1;have V:c.cell? ⟨n,2,none⟩=some (ab (s j)):=af f 2;have X:c.cell? ⟨n,3,none⟩=some (ae (t j)):=af f 3;have Y:c.cell? ⟨n,4,none⟩=some (.slice (xa j) (u j) (xc j)):=af f 4;clear A f D L M N O P;go_wp2_with fail;refine K.out.mono ?_;rintro e ap ⟨v,b,rfl,J⟩;go_wp2_with fail;go_roundw
  case rel=>exact⟨j+1,by omega,by go_num,J.out⟩
  case measure=>simp[intOf];omega
 ·obtain rfl:j=sl:=by omega
  have k:=ao (h.out _ _ q.out);clear l h q;go_wp2_with fail
  go_ret
  exact⟨_,rfl,k.out⟩
def OE(a:Option Addr)(L:Nat)(b:Nat->Bool)(i:Value->World->Bool->Prop)(w:World):Prop:=∀j,j<L->∃g o nm c v d e f xa h xc,(a=some ⟨g,o,none⟩/\g<w.heap.size/\w.cell? ⟨g,o+j*7,none⟩=some (ae nm)/\w.cell? ⟨g,o+j*7+1,none⟩=some (ab c)/\w.cell? ⟨g,o+j*7+2,none⟩=some (ab v)/\w.cell? ⟨g,o+j*7+3,none⟩=some (ab d)/\w.cell? ⟨g,o+j*7+4,none⟩=some (ab e)/\w.cell? ⟨g,o+j*7+5,none⟩=some (ae f)/\w.cell? ⟨g,o+j*7+6,none⟩=some (.slice xa h xc))/\Hid (∀W,ai w W->i (.agg #[ae nm,ab c,ab v,ab d,ab e,ae f,.slice xa h xc]) W (b j))
theorem xW(A:Nat)(a:Option Addr)(L c:Nat)(b:Nat->Bool)(w:World)(I:L<=1000000)(B:Hid (OE a L b (λv W t=>ak 16 #[v,.pointer (some ⟨A,0,none⟩)] W λe w'=>e=.returned (.bool t)/\ai W w') w)):ak 29 #[.slice a L c,.func (Fn.func 16) #[] #[.pointer (some ⟨A,0,none⟩)]] w λe w'=>∃r:Int,e=.returned (ab r)/\(0<=r ↔∃j,j<L/\b j=true)/\ai w w':=by
 go_enter Tryz.func29,Tryz.ntmps29;go_wp2_with fail;go_loopw [5,8] (λ_ i wr=>∃j:Nat,j<=L/\i=ab j/\Hid (ai w wr/\∀k,k<j->b k=false)) (λ_ i _=>L-(intOf i).toNat)
 case atStart=>exact⟨0,aF _,rfl,am _ _,λk g=>absurd g (Nat.not_lt_zero k)⟩
 case round=>
  obtain⟨j,J,rfl,HB⟩:=hrel;by_cases z:j<L
  ·obtain⟨H,o,M,N,v,P,Q,R,S,U,T,⟨rfl,f,m,n,p,q,s,u,x⟩,C⟩:=B.out j z;have d:=ap HB.out.1;replace m:=(d _ _ f).trans m;replace n:=(d _ _ f).trans n;replace p:=(d _ _ f).trans p;replace q:=(d _ _ f).trans q;replace s:=(d _ _ f).trans s;replace u:=(d _ _ f).trans u;replace x:=(d _ _ f).trans x;clear d;have G:(0:Int)<=(j:Int):=by omega
   have K:(j:Int)<(L:Int):=by omega
   have E:=C.out _ HB.out.1;go_wp2_with fail;refine E.mono ?_;rintro e O ⟨rfl,D⟩;have l:=ao (HB.out.1.trans (D.mono HB.out.1.size));cases hbj:b j with
   | true=>
    go_wp2_with fail
    go_ret
    exact⟨_,rfl,⟨λ_=>⟨j,z,hbj⟩,λ_=>G⟩,l.out⟩
   | false=>
    go_wp2_with fail;go_roundw
    case rel=>exact⟨j+1,by omega,by go_num,l.out,λk g=>by rcases Nat.lt_succ_iff_lt_or_eq.1 g with h|h;exact HB.out.2 k h;exact h▸hbj⟩
    case measure=>simp[intOf];omega
  ·have F:j=L:=by omega
   subst F;go_wp2_with fail
   go_ret
   refine⟨_,rfl,⟨λh=>absurd h (by decide),λ⟨k,g,y⟩=>?_⟩,HB.out.1⟩;rw[HB.out.2 k g]at y;cases y
theorem tX(d:Nat)(a:Option Addr)(L c:Nat)(b:Nat->Bool)(w:World)(i:L<=1000000)(g:Hid (OE a L b (λv W t=>ak 16 #[v,.pointer (some ⟨d,0,none⟩)] W λe w'=>e=.returned (.bool t)/\ai W w') w)):ak 9 #[.slice a L c,.func (Fn.func 16) #[] #[.pointer (some ⟨d,0,none⟩)]] w λe w'=>∃t:Bool,e=.returned (.bool t)/\(t=true ↔∃j,j<L/\b j=true)/\ai w w':=by
 go_enter Tryz.func9,Tryz.ntmps9;go_wp2_with fail;refine(xW d a L c b w i g).mono ?_;rintro e m ⟨l,rfl,f,k⟩;have h:=ao f;clear f;go_wp2_with fail
 go_ret
 refine⟨decide (0<=l),?_,by rw[decide_eq_true_iff];exact h.out,k⟩;simp
theorem rD{n d:Nat}{p:List (Tm n)}{q:List (Tm d)}(c:ay (λa b=>aw n a d b) p q=true)(s:ByteArray)(k:Nat):tm n p s k=tm d q s k:=by
 unfold tm;rw[cw _ _ _ c];cases p with
 | nil=>
  cases q with
  | nil=>rfl
  | cons b q=>simp[ay]at c
 | cons a p=>
  cases q with
  | nil=>simp[ay]at c
  | cons b q=>
   simp only[ay,aB]at c;have e:(fX n a).1=(fX d b).1:=by
    cases n with
    | zero=>exact absurd c.1 (by simp[aw])
    | succ n=>
     cases d with
     | zero=>exact absurd c.1 (by simp[aw])
     | succ d=>exact(bA c.1).1
   simp only[cI,(kw _ _ _ _ c.1).1,e]
theorem qk{n e:Nat}{p:List (Tm n)}{q:List (Tm e)}(f:ay (λa b=>aw n a e b) p q=true)(i:Nat):(p[i]?=none/\q[i]?=none)\/∃a b,p[i]?=some a/\q[i]?=some b/\aw n a e b=true/\a∈p/\b∈q:=by
 have h:=cw _ _ _ f;by_cases g:i<p.length
 ·have c:=aE g;have d:=aE (show i<q.length by omega);exact ah ⟨_,_,c,d,iZ _ _ _ f _ _ _ c d,aG c,aG d⟩
 ·exact ag ⟨eg (by omega),eg (by omega)⟩
theorem zk{n i N M:Nat}(f:Tm n->Option (Tm N))(g:Tm i->Option (Tm M)):(p:List (Tm n))->(q:List (Tm i))->ay (λa b=>aw n a i b) p q=true->(∀a∈p,∀b∈q,aw n a i b=true->fp N M (f a) (g b))->fp (N+1) (M+1) ((cC f p).map (cU N)) ((cC g q).map (cU M))/\((cC f p=none/\cC g q=none)\/∃l r,cC f p=some l/\cC g q=some r/\ay (λa b=>aw N a M b) l r=true)
 | [],[],_,_=>⟨by simp[cC,fp,aw,cU,ay],ah ⟨[],[],rfl,rfl,rfl⟩⟩
 | [],_::_,h,_=>by simp[ay]at h
 | _::_,[],h,_=>by simp[ay]at h
 | a::p,b::q,d,h=>by
  simp only[ay,aB]at d;have c:=h a (by simp) b (by simp) d.1;have s:=(zk f g p q d.2 λx t y u=>h x (by simp[t]) y (by simp[u])).2;simp only[cC];cases e1:f a with
  | none=>
   rw[e1]at c;cases e:g b with
   | none=>simp[fp]
   | some _=>rw[e]at c;exact c.elim
  | some o=>
   rw[e1]at c;cases e:g b with
   | none=>rw[e]at c;exact c.elim
   | some v=>
    rw[e]at c;have d:aw N o M v=true:=c;rcases s with⟨j,k⟩|⟨l,r,j,k,m⟩
    ·rw[j,k];simp[fp]
    ·rw[j,k];exact⟨by simp[fp,aw,cU,ay,d,m],ah ⟨o::l,v::r,rfl,rfl,by simp[ay,d,m]⟩⟩
theorem yT(m:Nat)(b:List (Tm m))(i:Nat)(k:List (Tm i))(self:Int)(u:ay (λx y=>aw m x i y) b k=true)(z:∀y∈b,aA ⟨m,y⟩)(A:∀y∈k,aA ⟨i,y⟩):(n:Nat)->(x:Tm n)->(d:Nat)->(x':Tm d)->aA ⟨n,x⟩->aA ⟨d,x'⟩->aw n x d x'=true->fp (m+n) (i+d) (vl m b self n x) (vl i k self d x')
 | 0,_,_,_,_,_,h=>by simp[aw]at h
 | _+1,_,0,_,_,_,h=>by simp[aw]at h
 | n+1,x,d+1,x',hx,hx',h=>by
  obtain⟨H,j⟩:=bA h;unfold vl;rw[<-H];by_cases s:x.1.1=5
  ·rw[if_pos s,if_pos s];rcases qk u x.1.2.1.toNat with⟨e,f⟩|⟨y,F,e,f,C,p,q⟩
   ·rw[e,f];trivial
   ·rw[e,f];simp only[dn];rw[<-(kw _ _ _ _ C).1];by_cases g:bN ⟨m,y⟩=6
    ·rw[if_pos g,if_pos g];trivial
    ·rw[if_neg g,if_neg g];exact iu (by omega) (by omega) (z y p) (A _ q) C
  ·rw[if_neg s,if_neg s];by_cases g:x.1.1=6
   ·rw[if_pos g,if_pos g];trivial
   ·rw[if_neg g,if_neg g];by_cases r:x.1.1=4
    ·rw[if_pos r,if_pos r,<-rD j,<-rD j,<-rD j];by_cases B:tm n x.2.2 pf 0=true
     ·rw[if_pos B,if_pos B];simp[fp,aw,bJ,ay]
     ·rw[if_neg B,if_neg B];by_cases t:tm n x.2.2 vm 2=true
      ·rw[if_pos t,if_pos t];rcases qk j 1 with⟨e,f⟩|⟨a,o,e,f,l,p,q⟩
       ·rw[e,f];trivial
       ·rcases qk j 2 with⟨D,E⟩|⟨c,G,D,E,K,M,N⟩
        ·rw[e,f,D,E];trivial
        ·rw[e,f,D,E];simp only[dn];exact mO (yT m b i k self u z A n a d o (aR n x a hx p) (aR d x' o hx' q) l) λO v I=>mO (yT m b i k self u z A n c d G (aR n x c hx M) (aR d x' G hx' N) K) λP Q J=>wY I J
      ·rw[if_neg t,if_neg t];by_cases w:tm n x.2.2 BC 1=true
       ·rw[if_pos w,if_pos w];rcases qk j 1 with⟨e,f⟩|⟨a,o,e,f,l,p,q⟩
        ·rw[e,f];trivial
        ·rw[e,f];simp only[dn,cr _ _ _ _ l];cases aH d o
         ·simp[fp]
         ·exact iu (by omega) (by omega) (aR n x a hx p) (aR d x' o hx' q) l
       ·rw[if_neg w,if_neg w];exact(zk _ _ x.2.2 x'.2.2 j λy C F L l=>yT m b i k self u z A n y d F (aR n x y hx C) (aR d x' F hx' L) l).1
    ·rw[if_neg r,if_neg r];exact iu (by omega) (by omega) hx hx' h
theorem EB{B:List Tc}(c:∀y∈B,aA ⟨13,y⟩)(self:Int){n a:Nat}{x:Tm n}{x':Tm a}(g:aA ⟨n,x⟩)(h:aA ⟨a,x'⟩)(e:aw n x a x'=true):rS B self n x=rS B self a x':=by
 have f:ay (λx y=>aw 13 x 13 y) B B=true:=iA _ _ λy i=>fl 13 y (c y i);have k:=yT 13 B 13 B self f c c n x a x' g h e;unfold rS;cases e1:vl 13 B self n x with
 | none=>
  rw[e1]at k;cases b:vl 13 B self a x' with
  | none=>rfl
  | some _=>rw[b]at k;exact k.elim
 | some j=>
  rw[e1]at k;cases b:vl 13 B self a x' with
  | none=>rw[b]at k;exact k.elim
  | some l=>
   rw[b]at k;have d:aw (13+n) j (13+a) l=true:=k;simp only[dn];rw[bL d,gR d]
def Ob(k:Nat)(d:Dg):Prop:=(∀y∈d.b,aA ⟨13,y⟩)/\1<=d.next/\d.next+k<=100
theorem sE{n:Nat}(a:Ac (n+1)):(a.1=1/\(bY n a).2.2=[aW lU n,a.2.1.1,a.2.1.2])\/(a.1=2/\(bY n a).2.2=[aW iF n,aW a.2.2.1 n,a.2.1.2,bJ 5 a.2.2.2 n])\/(a.1=3/\(bY n a).2.2=[aW lT n,a.2.1.1])\/((a.1≠1/\a.1≠2/\a.1≠3)/\(bY n a).2.2=[aW ld n]):=by
 unfold bY;by_cases b:a.1=1
 ·exact ag ⟨b,by rw[if_pos b];rfl⟩
 ·by_cases c:a.1=2
  ·exact ah (ag ⟨c,by rw[if_neg b,if_pos c];rfl⟩)
  ·by_cases d:a.1=3
   ·exact ah (ah (ag ⟨d,by rw[if_neg b,if_neg c,if_pos d];rfl⟩))
   ·exact ah (ah (ah ⟨⟨b,c,d⟩,by rw[if_neg b,if_neg c,if_neg d];rfl⟩))
theorem Gc{a:Int}(d:1<=a/\a<=99):aA ⟨13,CY a⟩:=by
 intro c b;have b:c∈[(((3,a,.empty),(none,0,0)):Nd)]:=b;obtain rfl:=dD.1 b;simp[cq,pY,d]
theorem Ii{n m:Nat}{a:Ac (n+1)}{b:Ac (m+1)}(c:aw (n+2) (bY n a) (m+2) (bY m b)=true)(w:aA ⟨n+2,bY n a⟩)(y:aA ⟨m+2,bY m b⟩)(self:Int){k:Nat}{d:Dg}(z:Ob (k+1) d):qu self a d=qu self b d/\∀h,qu self a d=some h->Ob k h:=by
 obtain⟨_,e⟩:=bA c;have F:=λl j=>aR (n+1) (bY n a) l w j;have G:=λl j=>aR (m+1) (bY m b) l y j;have v:=cw _ _ _ e;obtain⟨d1,q,I⟩:=z;have i:∀{x:Tm (n+1)}{x':Tm (m+1)},x∈(bY n a).2.2->x'∈(bY m b).2.2->aw (n+1) x (m+1) x'=true->rS d.b self (n+1) x=rS d.b self (m+1) x':=λA B C=>EB d1 self (F _ A) (G _ B) C;rcases sE a with⟨f,o⟩|⟨f,o⟩|⟨f,o⟩|⟨f,o⟩<;>rcases sE b with⟨g,p⟩|⟨g,p⟩|⟨g,p⟩|⟨g,p⟩<;>rw[o,p]at v e i
 case inl.inl=>
  simp only[ay,aB,and_true]at e;have r:=i (x:=a.2.1.1) (x':=b.2.1.1) (by simp) (by simp) e.2.1;have s:=i (x:=a.2.1.2) (x':=b.2.1.2) (by simp) (by simp) e.2.2;unfold qu;rw[if_pos f,if_pos g,s];unfold mK;rw[r];refine⟨rfl,λh c=>?_⟩;obtain⟨H,_,c⟩:=br.1 c;obtain⟨t,_,rfl⟩:=cd.1 c;exact⟨d1,q,by simp only;omega⟩
 case inr.inl.inr.inl=>
  simp only[ay,aB,and_true]at e;have s:=i (x:=a.2.1.2) (x':=b.2.1.2) (by simp) (by simp) e.2.2.1;have D:a.2.2.1=b.2.2.1:=by
   have:=(bA e.2.1).1;simpa [aW]using this
  have E:a.2.2.2=b.2.2.2:=by
   have:=(bA e.2.2.2).1;simpa [bJ]using this
  unfold qu;rw[if_neg (show¬a.1=1 by omega),if_neg (show¬b.1=1 by omega),if_pos f,if_pos g,s,D,E];refine⟨rfl,λh c=>?_⟩;obtain⟨t,_,c⟩:=br.1 c;split at c
  ·obtain rfl:=au c;refine⟨λl j=>?_,by simp only;omega,by simp only;omega⟩;rcases rY j with u|u
   ·exact d1 l u
   ·rw[u];exact Gc (by omega)
  ·cases c
 case inr.inr.inl.inr.inr.inl=>
  simp only[ay,aB,and_true]at e;have r:=i (x:=a.2.1.1) (x':=b.2.1.1) (by simp) (by simp) e.2;unfold qu;rw[if_neg (show¬a.1=1 by omega),if_neg (show¬b.1=1 by omega),if_neg (show¬a.1=2 by omega),if_neg (show¬b.1=2 by omega),if_pos f,if_pos g];unfold mK;rw[r];refine⟨rfl,λh c=>?_⟩;obtain⟨H,_,rfl⟩:=cd.1 c;exact⟨d1,q,by simp only;omega⟩
 case inr.inr.inr.inr.inr.inr=>
  unfold qu;rw[if_neg f.1,if_neg g.1,if_neg f.2.1,if_neg g.2.1,if_neg f.2.2,if_neg g.2.2];refine⟨rfl,λh c=>?_⟩;obtain rfl:=au c;exact⟨d1,q,by simp only;omega⟩
 all_goals exact absurd v (by simp)
theorem zR{n m:Nat}(self:Int):(l:List (Ac (n+1)))->(r:List (Ac (m+1)))->ay (λx y=>aw (n+2) x (m+2) y) (l.map (bY n)) (r.map (bY m))=true->(∀a∈l,aA ⟨n+2,bY n a⟩)->(∀b∈r,aA ⟨m+2,bY m b⟩)->∀{d:Dg},Ob l.length d->py self l d=py self r d/\∀f,py self l d=some f->∀y∈f.b,aA ⟨13,y⟩
 | [],[],_,_,_,d,hd=>⟨rfl,λf c=>by obtain rfl:=au c;exact hd.1⟩
 | [],_::_,c,_,_,_,_=>by simp[ay]at c
 | _::_,[],c,_,_,_,_=>by simp[ay]at c
 | a::l,b::r,c,ha,hb,d,hd=>by
  simp only[aI,ay,aB]at c;obtain⟨h,i⟩:=Ii c.1 (ha a (by simp)) (hb b (by simp)) self hd;unfold py;rw[<-h];cases e:qu self a d with
  | none=>exact⟨rfl,λ_ c=>by cases c⟩
  | some f=>exact zR self l r c.2 (λx g=>ha x (by simp[g])) (λx g=>hb x (by simp[g])) (i f e)
def Nq{n m:Nat}(c:Cl (n+1))(a:Cl (m+1)):Prop:=(aw (n+1) c.1.1 (m+1) a.1.1=true/\aw (n+1) c.1.2.1 (m+1) a.1.2.1=true/\aw (n+1) c.1.2.2 (m+1) a.1.2.2=true)/\ay (λx y=>aw (n+2) x (m+2) y) (c.2.2.map (bY n)) (a.2.2.map (bY m))=true
theorem nO{n m:Nat}{x:Tm (n+1)}{y:Tm (m+1)}(b:bq (n+1) x=0)(c:bq (m+1) y=0)(a:aw (n+3) (aN (n+3) (n+1) x) (m+3) (aN (m+3) (m+1) y)=true):aw (n+1) x (m+1) y=true:=
 bD _ _ _ _ _ _ (dq _ _ _ _ (fk (n+3) (n+1) (by omega) x (aJ.2 (bz.1 b).1))) (bD _ _ _ _ _ _ a (fk (m+3) (m+1) (by omega) y (aJ.2 (bz.1 c).1)))
theorem KD{n m:Nat}{c:Cl (n+1)}{a:Cl (m+1)}(f:aw (n+4) (du n c) (m+4) (du m a)=true)(b:pj c)(d:pj a):Nq c a:=by
 obtain⟨_,e⟩:=bA f;simp only[du,cU,ay,aB,and_true]at e;obtain⟨_,g,h,i,j⟩:=e;exact⟨⟨nO b.1 d.1 g,nO b.2.1 d.2.1 h,nO b.2.2.1 d.2.2.1 j⟩,(bA i).2⟩
theorem Kt:mB.length=4/\∀y∈mB,BS y:=by
 refine⟨rfl,λy a=>?_⟩;simp only[mB,ni,bU]at a;obtain⟨c,b,rfl⟩:=a;rw[List.eq_of_mem_replicate b];exact⟨by kernel_rfl,ag rfl⟩
theorem Fj{n m:Nat}{c:Cl (n+1)}{e:Cl (m+1)}(f:Nq c e){s t:Tc}(j:bq 13 s=0/\aH 13 s=true)(k:bq 13 t=0/\aH 13 t=true):kK c s t=kK e s t/\∀b,kK c s t=some b->∀y∈b,aA ⟨13,y⟩:=by
 have r:aw 13 s 13 s=true:=fl _ _ (aJ.2 (bz.1 j.1).1);have u:aw 13 t 13 t=true:=fl _ _ (aJ.2 (bz.1 k.1).1);have a:=lG _ c.1.1 13 s _ e.1.1 13 s mB mB f.1.1 r tK;unfold kK;cases e1:gN (n+1) c.1.1 13 s mB with
 | none=>
  rw[e1]at a;cases g:gN (m+1) e.1.1 13 s mB with
  | none=>exact⟨rfl,λ_ f=>by cases f⟩
  | some _=>rw[g]at a;exact a.elim
 | some b=>
  rw[e1]at a;cases g:gN (m+1) e.1.1 13 s mB with
  | none=>rw[g]at a;exact a.elim
  | some i=>
   rw[g]at a;have q:=ku BS nH _ c.1.1 13 s ⟨j.1,ah j.2⟩ _ _ Kt e1;have d:=lG _ c.1.2.1 13 t _ e.1.2.1 13 t b i f.1.2.1 u a;simp only[dn];cases e3:gN (n+1) c.1.2.1 13 t b with
   | none=>
    rw[e3]at d;cases h:gN (m+1) e.1.2.1 13 t i with
    | none=>exact⟨rfl,λ_ f=>by cases f⟩
    | some _=>rw[h]at d;exact d.elim
   | some x=>
    rw[e3]at d;cases h:gN (m+1) e.1.2.1 13 t i with
    | none=>rw[h]at d;exact d.elim
    | some z=>
     rw[h]at d;refine⟨by simp only[Option.map_some];rw[Hw d],λw l y o=>?_⟩;obtain rfl:=au l;obtain⟨v,p,rfl⟩:=bU.1 o;exact aJ.2 (bz.1 (rv ((ku BS nH _ c.1.2.1 13 t ⟨k.1,ah k.2⟩ _ _ q e3).2 v p).1)).1
theorem rm{n m:Nat}(name:ByteArray):(l:List (Bh (n+1)))->(r:List (Bh (m+1)))->ay (λx y=>aw (n+5) x (m+5) y) (l.map (dC n)) (r.map (dC m))=true->(fU (n+1) name l=none/\fU (m+1) name r=none)\/∃b a,fU (n+1) name l=some b/\fU (m+1) name r=some a/\ay (λx y=>aw (n+4) x (m+4) y) (b.2.2.map (du n)) (a.2.2.map (du m))=true/\b∈l/\a∈r
 | [],[],_=>ag ⟨rfl,rfl⟩
 | [],_::_,h=>by simp[ay]at h
 | _::_,[],h=>by simp[ay]at h
 | b::l,a::r,h=>by
  simp only[aI,ay,aB]at h;obtain⟨_,f⟩:=bA h.1;simp only[dC,cU,ay,aB]at f;have e:b.1=a.1:=by
   have:=(bA f.2.1).1;simpa [aW]using this
  unfold fU;rw[e];by_cases d:a.1=name
  ·rw[if_pos d,if_pos d];exact ah ⟨b,a,rfl,rfl,f.2.2,by simp,by simp⟩
  ·rw[if_neg d,if_neg d];rcases rm name l r h.2 with k|⟨c,g,i,j,o,p,q⟩
   ·exact ag k
   ·exact ah ⟨c,g,i,j,o,by simp[p],by simp[q]⟩
theorem vS{n m:Nat}{s t:Tc}(o:bq 13 s=0/\aH 13 s=true)(p:bq 13 t=0/\aH 13 t=true):(l:List (Cl (n+1)))->(r:List (Cl (m+1)))->ay (λx y=>aw (n+4) x (m+4) y) (l.map (du n)) (r.map (du m))=true->(∀c∈l,pj c)->(∀c∈r,pj c)->(lD s t l=none/\lD s t r=none)\/∃c a b,lD s t l=some (c,b)/\lD s t r=some (a,b)/\Nq c a/\(c∈l/\a∈r)/\∀y∈b,aA ⟨13,y⟩
 | [],[],_,_,_=>ag ⟨rfl,rfl⟩
 | [],_::_,h,_,_=>by simp[ay]at h
 | _::_,[],h,_,_=>by simp[ay]at h
 | c::l,a::r,h,hl,hr=>by
  simp only[aI,ay,aB]at h;have j:=KD h.1 (hl c (by simp)) (hr a (by simp));obtain⟨g,i⟩:=Fj j o p;unfold lD;rw[<-g];cases e:kK c s t with
  | some b=>exact ah ⟨c,a,b,rfl,rfl,j,⟨by simp,by simp⟩,i b e⟩
  | none=>
   rcases vS o p l r h.2 (λx f=>hl x (by simp[f])) (λx f=>hr x (by simp[f]))with k|⟨d,u,b,g,i,v,q,w⟩
   ·exact ag k
   ·exact ah ⟨d,u,b,g,i,v,⟨by simp[q.1],by simp[q.2]⟩,w⟩
theorem tS{n m:Nat}{s:Tc}(k:bq 13 s=0/\aH 13 s=true){l:List (Cl (n+1))}{r:List (Cl (m+1))}(f:ay (λx y=>aw (n+4) x (m+4) y) (l.map (du n)) (r.map (du m))=true)(g:∀c∈l,pj c)(h:∀c∈r,pj c):(ms:List Tc)->(∀t∈ms,bq 13 t=0/\aH 13 t=true)->(i:Nat)->(rq l s ms i=none/\rq r s ms i=none)\/∃j c a b,rq l s ms i=some (j,c,b)/\rq r s ms i=some (j,a,b)/\Nq c a/\(c∈l/\a∈r)/\∀y∈b,aA ⟨13,y⟩
 | [],_,_=>ag ⟨rfl,rfl⟩
 | t::ms,ht,i=>by
  unfold rq;rcases vS k (ht t (by simp)) l r f g h with⟨d,e⟩|⟨c,a,b,d,e,p⟩
  ·rw[d,e];exact tS k f g h ms (λx o=>ht x (by simp[o])) (i+1)
  ·rw[d,e];exact ah ⟨i,c,a,b,rfl,rfl,p⟩
theorem EJ{n:Nat}{c:Cl (n+1)}(d:bq (n+3) (cU (n+2) (c.2.2.map (bY n)))=0):∀a∈c.2.2,aA ⟨n+2,bY n a⟩:=λa b=>aJ.2 (bz.1 (fx d (by simp only[cU];exact j0 b))).1
theorem Fr{n m:Nat}{c:Cl (n+1)}{f:Cl (m+1)}(h:Nq c f)(g:pj c/\∀a∈c.2.2,aA ⟨n+2,bY n a⟩)(i:pj f/\∀a∈f.2.2,aA ⟨m+2,bY m a⟩)(room self next:Int)(k:1<=next/\next<=92)(s t:Tc)(ms:List Tc){b:List Tc}(j:∀y∈b,aA ⟨13,y⟩):eY room self next s t ms c b=eY room self next s t ms f b:=by
 have p:=g.1.2.2.2.1;obtain⟨l,o⟩:=zR self c.2.2 f.2.2 h.2 g.2 i.2 (d:=⟨b,next,[],[],[],false⟩) ⟨j,k.1,by simp only;omega⟩;unfold eY;rw[<-l];cases e:py self c.2.2 ⟨b,next,[],[],[],false⟩with
 | none=>rfl
 | some d=>
  have:=EB (o d e) self (aJ.2 (bz.1 g.1.2.2.1).1) (aJ.2 (bz.1 i.1.2.2.1).1) h.1.2.2;simp only[this]
theorem wI{n:Nat}{p:List (Bh (n+1))}(d:nn n p=0):∀b∈p,∀c∈b.2.2,pj c/\∀a∈c.2.2,aA ⟨n+2,bY n a⟩:=λb e c f=>by
 have g:=(fE d).2.1;have h:bq (n+5) (dC n b)=0:=fx g (by simp only[bW,cU];exact bH _ (j0 e));have i:bq (n+4) (du n c)=0:=fx h (by simp only[dC,cU];exact bH _ (bH _ (j0 f)));exact⟨((Ep d).2 b e).2 c f,EJ (tQ i 3 rfl)⟩
theorem vf{n m:Nat}{P:List (Bh (n+1))}{Q:List (Bh (m+1))}(b:aw (n+6) (bW n P) (m+6) (bW m Q)=true):ay (λx y=>aw (n+5) x (m+5) y) (P.map (dC n)) (Q.map (dC m))=true:=by
 obtain⟨_,a⟩:=bA b;simp only[bW,cU,ay,aB]at a;exact a.2
theorem uq{n m:Nat}{P:List (Bh (n+1))}{Q:List (Bh (m+1))}(d:aw (n+6) (bW n P) (m+6) (bW m Q)=true)(nm:ByteArray):kC n P nm=kC m Q nm:=by
 unfold kC;rcases rm nm P Q (vf d)with⟨a,c⟩|⟨b,e,a,c,_⟩<;>rw[a,c]<;>rfl
theorem Gu{n m:Nat}{P:List (Bh (n+1))}{Q:List (Bh (m+1))}(y:aw (n+6) (bW n P) (m+6) (bW m Q)=true)(z:nn n P=0)(A:nn m Q=0)(room:Int)(nm:ByteArray)(self next:Int)(B:1<=next/\next<=92){s:Tc}(w:bq 13 s=0/\aH 13 s=true){ms:List Tc}(v:∀t∈ms,bq 13 t=0/\aH 13 t=true):mP room P nm self next s ms=mP room Q nm self next s ms:=by
 have p:=wI z;have q:=wI A;have key:(rq (fW nm P) s ms 0=none/\rq (fW nm Q) s ms 0=none)\/∃f c a b,rq (fW nm P) s ms 0=some (f,c,b)/\rq (fW nm Q) s ms 0=some (f,a,b)/\Nq c a/\((pj c/\∀i∈c.2.2,aA ⟨n+2,bY n i⟩)/\pj a/\∀i∈a.2.2,aA ⟨m+2,bY m i⟩)/\∀H∈b,aA ⟨13,H⟩:=by
  unfold fW;rcases rm nm P Q (vf y)with⟨d,e⟩|⟨b,u,d,e,o,g,h⟩
  ·rw[d,e];rcases tS w (l:=([]:List (Cl (n+1)))) (r:=([]:List (Cl (m+1)))) rfl (by simp) (by simp) ms v 0 with k|⟨_,_,_,_,_,_,_,k,_⟩
   ·exact ag k
   ·cases k.1
  ·rw[d,e];rcases tS w o (λc j=>(p b g c j).1) (λc j=>(q u h c j).1) ms v 0 with k|⟨f,c,a,G,C,D,E,x,F⟩
   ·exact ag k
   ·exact ah ⟨f,c,a,G,C,D,E,⟨p b g c x.1,q u h a x.2⟩,F⟩
 unfold mP;rcases key with⟨d,e⟩|⟨f,c,a,b,d,e,o,g,h⟩
 ·rw[d,e];rfl
 ·rw[d,e];simp only[dn];congr 1;funext t;exact Fr o g.1 g.2 room self next B s t _ h
theorem KN{n m:Nat}{P:List (Bh (n+1))}{Q:List (Bh (m+1))}(d:aw (n+6) (bW n P) (m+6) (bW m Q)=true)(f:nn n P=0)(g:nn m Q=0){s:Sy}(q:∀a nm cs c,s.get a=some (nm,cs,c)->(bq 13 cs=0/\aH 13 cs=true)/\∀t∈c,bq 13 t=0/\aH 13 t=true)(v:0<=s.last/\s.last<=90)(room i a b:Int)(k:Nat)(x:Tm k):s.do n P room i a b k x=s.do m Q room i a b k x:=by
 have p:kC n P=kC m Q:=funext λnm=>uq d nm;have r:s.run n P room a=s.run m Q room a:=by
  unfold Sy.run;cases e:s.get a with
  | none=>rfl
  | some u=>
   obtain⟨nm,cs,c⟩:=u;obtain⟨j,l⟩:=q a nm cs c e;have h:=Gu d f g room nm a (s.last+1) ⟨by omega,by omega⟩ j l;have o:qQ n room P nm a (s.last+1) cs c=qQ m room Q nm a (s.last+1) cs c:=by
    unfold qQ;rw[h,f,g]
   simp only[o,h,Sy.made,p];split
   ·cases mP room Q nm a (s.last+1) cs c<;>rfl
   ·rfl
 unfold Sy.do;rw[r]
theorem Dk{n m:Nat}{P:List (Bh (n+1))}{Q:List (Bh (m+1))}(a:aw (n+6) (bW n P) (m+6) (bW m Q)=true)(s:Sy)(room:Int)(nm:ByteArray)(k:Nat)(x:Tm k):s.start n P room nm k x=s.start m Q room nm k x:=by
 unfold Sy.start;rw[uq a]
theorem IF{n:Nat}{P:List (Bh (n+1))}{k d:Nat}{x:Tm k}{y:Tm d}(c:aw k x d y=true)(s:Sy)(room a b:Int):s.do n P room 3 a b k x=s.do n P room 3 a b d y:=by
 unfold Sy.do Sy.inject;rw[bL c,cr _ _ _ _ c,gR c]
def pX:ByteArray:=⟨#[99,111,117,110,116]⟩
def OC:ByteArray:=⟨#[117,112]⟩
def OB:ByteArray:=⟨#[97,115,107]⟩
def N2:ByteArray:=⟨#[104,97,118,101]⟩
def sI:ByteArray:=⟨#[102,111,114,107]⟩
def BB:ByteArray:=⟨#[98,97,100]⟩
def wA:ByteArray:=⟨#[97]⟩
def Nt:Option Addr×Nat:=(none,0)
def Ia(N:Nat):Tm (N+1):=bJ 6 0 N
def KI(a:Int)(N:Nat):Tm (N+1):=bJ 1 a N
def Ie(a:Int)(N:Nat):Tm (N+1):=bJ 5 a N
def eX:List (Bh 2):=[(pX,Nt,[
 ((Ie 0 1,cU 1 [aW OC 0,Ie 1 0],cU 1 [aW vm 0,Ie 0 0,Ie 1 0]),Nt,[]),
 ((Ie 0 1,cU 1 [aW OB 0,Ie 1 0],Ie 0 1),Nt,[(1,(Ie 1 1,cU 1 [aW N2 0,Ie 0 0]),.empty,0)]),
 ((Ia 1,aW sI 1,KI 1 1),Nt,[(2,(zT 1,KI 0 1),pX,0),(3,(Ie 0 1,zT 1),.empty,0),(1,(Ie 0 1,cU 1 [aW OC 0,KI 7 0]),.empty,0)]),
 ((Ia 1,aW ld 1,KI 0 1),Nt,[(4,(zT 1,zT 1),.empty,0)]),
 ((Ia 1,aW BB 1,cU 1 [aW vm 0,aW wA 0,aW wA 0]),Nt,[])])]
def uE:Tc:=cU 12 [aW OC 11,KI 3 11]
def E5:Sy:=(Ki.start 1 eX 60 pX 1 (KI 2 0)).1
theorem Ih:nn 1 eX=0:=by kernel_rfl
theorem E6:(Ki.start 1 eX 60 pX 1 (KI 2 0)).2=0/\E5.last=1:=⟨by kernel_rfl,by kernel_rfl⟩
def Kh:List (Int×Int×Int×Tc):=[(3,1,0,uE),(1,1,0,sJ),(3,1,0,aW sI 12),(1,1,0,sJ),(2,1,2,sJ),(1,2,0,sJ)]
def NN:List (Int×Int×Int×Tc):=[(3,1,0,aW BB 12),(1,1,0,sJ)]
def Ib(s:Sy)(e:Int×Int×Int×Tc):Sy×Int:=s.do 1 eX 60 e.1 e.2.1 e.2.2.1 13 e.2.2.2
def xO(s:Sy)(l:List (Int×Int×Int×Tc)):Sy:=l.foldl (λs e=>(Ib s e).1) s
def Cb:Sy->List (Int×Int×Int×Tc)->Bool
 | _,[]=>true
 | s,e::l=>(Ib s e).2==0 && Cb (Ib s e).1 l
theorem If:Cb E5 Kh=true:=by kernel_rfl
theorem KK:Cb (xO E5 Kh) NN=true:=by kernel_rfl
theorem MM:(xO E5 Kh).ps.map (·.1)=[1,2]:=by kernel_rfl
theorem Ig:((xO E5 Kh).get 2).map (λv=>(v.1,v.2.1.1))=some (pX,1,7,.empty):=by kernel_rfl
theorem KJ:(xO (xO E5 Kh) NN).ps=[]:=by kernel_rfl
def tZ(c:UInt8):Bool:=decide (48<=(c.toNat:Int)) && decide ((c.toNat:Int)<=57)
def ik(l:List UInt8):Bool:=l.all tZ
def kL(l:List UInt8):Int:=l.foldl (λn c=>10*n+((c.toNat:Int)-48)) 0
def eE(s:ByteArray)(m:Int):Bool:=decide (1<=(s.size:Int)) && decide ((s.size:Int)<=m) && !(s.data.toList[0]?==some 48 && decide (1<(s.size:Int))) && ik s.data.toList
theorem t8(s:ByteArray)(k:Nat)(a:k<s.size):ik (s.data.toList.take (k+1))=(ik (s.data.toList.take k) && tZ s[k]):=by
 rw[rQ s k a];simp[ik]
theorem FQ(s:ByteArray)(k:Nat)(a:k<s.size):kL (s.data.toList.take (k+1))=10*kL (s.data.toList.take k)+((s[k].toNat:Int)-48):=by
 rw[rQ s k a];simp[kL]
theorem CI(l:List UInt8):ik l=true->0<=kL l/\kL l<10 ^ l.length:=by
 suffices g:∀(l:List UInt8)(a:Int)(b:Nat),ik l=true->0<=a->a<10 ^ b->0<=l.foldl (λn c=>10*n+((c.toNat:Int)-48)) a/\l.foldl (λn c=>10*n+((c.toNat:Int)-48)) a<10 ^ (b+l.length) by
  intro d;have:=g l 0 0 d (by omega) (by simp);simpa [kL]using this
 intro l
 induction l with
 | nil=>intro a b _ e f;exact⟨e,f⟩
 | cons c l ih=>
  intro a b d e f;simp only[ik,iK,aB,tZ,bX]at d;have:=ih (10*a+((c.toNat:Int)-48)) (b+1) (by simp only[ik];exact d.2) (by omega) (by rw[Int.pow_succ];omega);simp only[ge,aZ];rw[show b+(l.length+1)=b+1+l.length by omega];exact this
theorem CJ(s:ByteArray)(k:Nat)(d:k<=14)(c:ik (s.data.toList.take k)=true):0<=kL (s.data.toList.take k)/\kL (s.data.toList.take k)<100000000000000:=by
 have a:=CI _ c;refine⟨a.1,Int.lt_of_lt_of_le a.2 ?_⟩;have:(10:Int) ^ (s.data.toList.take k).length<=10 ^ 14:=by
  have b:(10:Nat) ^ (s.data.toList.take k).length<=10 ^ 14:=Nat.pow_le_pow_right (by omega) (by simp;omega)
  exact_mod_cast b
 simpa using this
theorem vU(s:ByteArray)(k:Nat)(a:k<s.size)(c:tZ s[k]=false):ik s.data.toList=false:=by
 have b:ik s.data.toList=(ik (s.data.toList.take (k+1)) && ik (s.data.toList.drop (k+1))):=by
  conv=>lhs;rw[<-ji (k+1) s.data.toList]
  simp only[ik,jV]
 rw[b,t8 s k a,c];simp
theorem qw(s:ByteArray)(a:0<s.size):s.data.toList[0]?=some s[0]:=by
 rw[aE (by simpa using a)];rfl
theorem MX(s:ByteArray)(e:0<s.size)(f:s[0]=48):(s.toList==[48])=decide (¬1<s.size):=by
 rw[b8];have b:=qw s e;rw[f]at b;have a:s.data.toList.length=s.size:=by simp
 cases d:s.data.toList with
 | nil=>rw[d]at a;simp at a;omega
 | cons c l=>
  rw[d]at b a;simp at b;subst b;cases l with
  | nil=>simp at a;simp;omega
  | cons g l=>simp at a;simp;omega
theorem Be{s:ByteArray}(b:0<s.size):s.toList.isEmpty=false:=by
 rw[b8,List.isEmpty_eq_false_iff];intro a;have:s.data.toList.length=s.size:=by simp
 rw[a]at this;simp at this;omega
theorem Bc{s:ByteArray}(a:¬0<s.size):s.toList.isEmpty=true:=by
 rw[b8,List.isEmpty_iff];apply bB;have:s.data.toList.length=s.size:=by simp
 omega
theorem jC{c:UInt8}{k:Nat}{d:UInt8}(b:d.toNat=k)(a:¬c=d):¬((c.toNat:Int)=k):=λe=>a (UInt8.toNat.inj (by omega))
def Mx(s:ByteArray)(m:Int)(e:Ending):Prop:=
 ∃(a:Int)(b:Bool),e=.returned (.tuple #[ab a,.bool b])/\Hid (b=eE s m/\0<=a/\a<100000000000000/\(b=true->a=kL s.data.toList))
theorem nF(s:ByteArray)(m:Int)(w:World)(F:s.size<=9223372036854775807)(E:m<=13):ak 128 #[ae s,ab m] w λe w'=>Mx s m e/\w'=w:=by
 go_enter Tryz.func128,Tryz.ntmps128;by_cases g:0<s.size
 ·have n:=Be g;have B:(s.toList=[])=False:=by simpa using n
  by_cases l:(s.size:Int)<=m
  ·have A:decide (m<(s.size:Int))=false:=by simp;omega
   have i:s[0]=48->(s.toList==[48])=decide (¬1<s.size):=MX s g;by_cases c:s[0]=48/\1<s.size
   ·obtain⟨c,a⟩:=c;have j:(s.toList==[48])=false:=by rw[i c];simp;omega
    have b:Hid (eE s m=false):=by simp[Hid,eE,qw s g,c];omega
    clear i;go_wp2_with fail
    all_goals go_ret2
    all_goals exact⟨⟨0,false,rfl,b.out.symm,by omega,by omega,by simp⟩,rfl⟩
   ·have b:Hid (eE s m=ik s.data.toList):=by
      simp only[Hid,eE];rw[qw s g];by_cases a:s[0]=48
      ·have:¬1<s.size:=λf=>c ⟨a,f⟩;simp[l];omega
      ·simp[l,a];omega
    have j:(s[0]=48/\(s.toList==[48])=true)\/¬((s[0].toNat:Int)=48):=by
     by_cases a:s[0]=48
     ·have C:¬1<s.size:=λf=>c ⟨a,f⟩;exact ag ⟨a,by rw[i a];simp;omega⟩
     ·exact ah (jC (k:=48) rfl a)
    clear i c;rcases j with⟨a,j⟩|j
    all_goals
     go_wp2_with fail
     go_loop [6,7] (λt p=>∃k:Nat,∃h:Int,k<=s.size/\p=ab k/\t=ab h/\Hid (h=kL (s.data.toList.take k)/\ik (s.data.toList.take k)=true)) (λ_ p=>s.size-(intOf p).toNat)
     case atStart=>exact⟨0,0,aF _,rfl,rfl,by simp[Hid,ik,kL]⟩
     case round=>
      obtain⟨k,h,D,rfl,rfl,d⟩:=hrel;have u:=CJ s k (by omega) d.out.2;rw[<-d.out.1]at u;obtain⟨G,H⟩:=u;by_cases o:k<s.size
      ·have y:=ao (t8 s k o);have z:=ao (FQ s k o);have q:Hid (tZ s[k]=false->false=eE s m):=λf=>by rw[b.out,vU s k o f]
       by_cases d1:48<=(s[k].toNat:Int)
       ·by_cases r:(s[k].toNat:Int)<=57
        ·go_wp2_with fail
         go_round
         case rel=>exact⟨k+1,10*h+((s[k].toNat:Int)-48),by omega,by go_num,by go_num,by rw[z.out,d.out.1],by rw[y.out,d.out.2];simp[tZ,d1,r]⟩
         case measure=>simp[intOf];omega
        ·go_wp2_with fail
         go_ret2
         exact⟨⟨0,false,rfl,q.out (by simp[tZ,r]),by omega,by omega,by simp⟩,rfl⟩
       ·go_wp2_with fail
        go_ret2
        exact⟨⟨0,false,rfl,q.out (by simp[tZ];omega),by omega,by omega,by simp⟩,rfl⟩
      ·go_wp2_with fail
       go_ret2
       have v:s.data.toList.take k=s.data.toList:=bw (by simp;omega);refine⟨⟨h,true,rfl,?_,by omega,by omega,λ_=>?_⟩,rfl⟩
       ·rw[b.out,<-v,d.out.2]
       ·rw[d.out.1,v]
  ·have A:m<(s.size:Int):=by omega
   have b:Hid (eE s m=false):=by simp[Hid,eE,l]
   go_wp2_with fail
   all_goals go_ret2
   all_goals exact⟨⟨0,false,rfl,b.out.symm,by omega,by omega,by simp⟩,rfl⟩
 ·have n:=Bc g;have B:(s.toList=[])=True:=by simpa using n
  have x:s.size=0:=by omega
  have b:Hid (eE s m=false):=by simp[Hid,eE,x]
  clear x;go_wp2_with fail
  all_goals go_ret2
  all_goals exact⟨⟨0,false,rfl,b.out.symm,by omega,by omega,by simp⟩,rfl⟩
end Go.Proofs.YtckamaoibonjcaaGreat
