/- What is proved here: the walk of proc's Step, over what its calls leave. No condition but that all lies in memory. -/
import Derived.Test.YtmmahddlcldmiaaGreatR05
namespace Go.Proofs.YtmmahddlcldmiaaGreat
open Go.RowKit Go.Proofs.Tryz
set_option maxRecDepth 100000
set_option maxHeartbeats 8000000
def PN(y0 y1:Int)(y2:ap)(ya:au)(yl yc:Nat)(f:Int)(sa:au)(sl sc:Nat)(pa:au)(pl pc:Nat)(ka:au)(kl kc:Nat):ar:=.agg #[ab y0,ab y1,af y2,ae ya yl yc,ab f,ae sa sl sc,ae pa pl pc,ae ka kl kc]
def N1:ar:=.agg #[ab 0,ab 0,af ⟨#[]⟩,ae none 0 0,ab 0,ae none 0 0,ae none 0 0,ae none 0 0]
def Q6{n:Nat}(d:Int)(rng:Bool)(j:Prop)(T:Nat->Tc->Cl (n+1)->Int->au->Nat->Nat->au->Nat->Nat->au->Nat->Nat->ag->Prop)(w:ag)(e:Ending)(w':ag):Prop:=
 (∃g,e=.returned (.tuple #[N1,ab g])/\Hid (am w w'/\((g=d/\d≠0)\/(g=1/\d=0/\rng=false)\/(g=4/\d=0/\rng=true/\j))))\/
  ∃(k:Nat)(a:Tc)(c:Cl (n+1))(f:Int)(sa:au)(sl sc:Nat)(pa:au)(pl pc:Nat)(ka:au)(kl kc:Nat),e=.returned (.tuple #[PN a.1.1 a.1.2.1 a.1.2.2 a.2.1.1 a.2.2.length a.2.1.2 f sa sl sc pa pl pc ka kl kc,ab 0])/\Hid (d=0/\rng=true/\∃h i,T k a c f sa sl sc pa pl pc ka kl kc h/\am h i/\bB (λb=>b=w.heap.size) i w')
theorem CL(w:ag)(q:Nat)(v0 v1 v2 v3 a b c d:ar):(((((((w.setCell ⟨q,0,none⟩ v0).setCell ⟨q,1,none⟩ v1).setCell ⟨q,2,none⟩ v2).setCell ⟨q,3,none⟩ v3).setCell ⟨q,4,none⟩ a).setCell ⟨q,5,none⟩ b).setCell ⟨q,6,none⟩ c).setCell ⟨q,7,none⟩ d=w.setCells q 0 [v0,v1,v2,v3,a,b,c,d]:=rfl
theorem Ge{w:ag}{q:Nat}{f g h i a b c d:ar}{t:TypeId}(e:w.heap[q]?=some (.cells #[f,g,h,i,a,b,c,d] t))(v0 v1 v2 v3:ar):((((w.setCell ⟨q,0,none⟩ v0).setCell ⟨q,1,none⟩ v1).setCell ⟨q,2,none⟩ v2).setCell ⟨q,3,none⟩ v3).heap[q]?=some (.cells #[v0,v1,v2,v3,a,b,c,d] t):=by
 unfold World.setCell;simp[bQ,e]
theorem IK{w:ag}{q:Nat}{v0 v1 v2 v3 a f g h:ar}{t:TypeId}(e:w.heap[q]?=some (.cells #[v0,v1,v2,v3,a,f,g,h] t))(b c d:ar):(((w.setCell ⟨q,5,none⟩ b).setCell ⟨q,6,none⟩ c).setCell ⟨q,7,none⟩ d).heap[q]?=some (.cells #[v0,v1,v2,v3,a,b,c,d] t):=by
 unfold World.setCell;simp[bQ,e]
theorem xX:(Tryz.prog.info? 117).map (·.size)=some 8:=by kernel_rfl
theorem hU{W:ag}{q:Nat}(vs:List ar)(a:vs.length=8)(b:W.there q 0 8):(loadVar 117 ⟨q,0,none⟩).run Tryz.prog (W.setCells q 0 vs)=.ok (.agg vs.toArray) (W.setCells q 0 vs):=
 run_loadVar_mid (P:=Tryz.prog) (W.setCells q 0 vs) q 0 117 vs _ (World.rangeAt_setCells_same W q 0 vs (by rw[a];exact b)) underlying117 rfl (by rw[a];exact xX)
theorem BZ{W:ag}{q:Nat}(vs:List ar)(a:vs.length=8)(b:W.there q 0 8):(loadVar 117 ⟨q,0,none⟩).run Tryz.prog (W.setCells q 0 vs).drew=.ok (.agg vs.toArray) (W.setCells q 0 vs).drew:=
 run_loadVar_mid (P:=Tryz.prog) (W.setCells q 0 vs).drew q 0 117 vs _ ((World.rangeAt_drew _ _ _ _).2 (World.rangeAt_setCells_same W q 0 vs (by rw[a];exact b))) underlying117 rfl (by rw[a];exact xX)
theorem kS{w W:ag}{q:Nat}(vs:List ar)(a:am w W)(d:q=w.heap.size):am w (W.setCells q 0 vs):=a.trans ((eL q vs 0 W).1.below a.size λb c e=>by omega)
theorem I1{n:Nat}(z:Nat)(name:ap)(bX:au)(L bY:Nat)(self next:Int)(aP:Int)(cF:au)(cE cG:Nat)(w:ag)(cD:Prop)(K bP:Nat->Tc->Cl (n+1)->Nat->Nat->ag->Prop)(T:Nat->Tc->Cl (n+1)->Int->au->Nat->Nat->au->Nat->Nat->au->Nat->Nat->ag->Prop)(rng:Bool)(aE:aO)(dk:z<w.heap.size)(cq:Hid (∀b,aE b->b<w.heap.size))(c8:Hid (aE z))(a2:Hid (rng=(decide (1<=self) && decide (self<=99) && decide (1<=next) && decide (next<=92))))(cu:Hid (∀W,am w W->ao 37 #[ae bX L bY] W λe w'=>∃y0 y1 y2 ya yl yc,e=.returned (.tuple #[.agg #[ab y0,ab y1,af y2,ae ya yl yc],ab aP])/\Hid (am W w')))(c7:Hid (ah w z 0 (af name)))(ce:Hid (∀W,aP=0->am w W->ao 77 #[ae bX L bY,af name] W λe w'=>e=.returned (ae cF cE cG)/\Hid (am W w')))(cc:Hid (∀W,aP=0->rng=true->am w W->ao 76 #[aH z,ae cF cE cG] W λe w'=>(e=.returned (.tuple #[.agg GO.toArray,.bool false])/\Hid (am W w'/\cD))\/∃(i:Nat)(y:Tc)(c:Cl (n+1))(l r:Nat),e=.returned (.tuple #[.agg (DG i y c (some ⟨l,0,none⟩) 4 r).toArray,.bool true])/\Hid (am W w'/\W.heap.size<=l/\l<w'.heap.size/\i<=1000000/\K i y c l r w')))(cn:Hid (∀i y c l r a1 W,K i y c l r a1->am a1 W->∃ma aV aU,(ah W z 7 (ae ma aV aU)/\W.frozen? ⟨z,7,none⟩=false)/\Hid (∀bQ,am W bQ->ao 78 #[ae ma aV aU,ab i,ab ((i:Int)+1)] bQ λe w'=>∃bk bm bl,e=.returned (ae bk bm bl)/\Hid (bB aE bQ w'/\ah w' z 7 (ae ma aV aU)/\w'.frozen? ⟨z,7,none⟩=false/\bP i y c l r (w'.setCell ⟨z,7,none⟩ (ae bk bm bl))))))(ci:Hid (∀i y c l r a1 W m,bP i y c l r a1->am a1 W->a1.heap.size<=m->W.heap[m]?=some (.cells #[ae (some ⟨l,0,none⟩) 4 r,ab self,ab next,ae none 0 0,ae none 0 0,ae none 0 0,.bool false] 170)->ao 79 #[aH z,QM c,aH m] W λe w'=>∃f,e=.returned (ab f)/\Hid (bB (λb=>aE b\/b=m\/b=l) W w'/\(f=0\/f=1->∃v0 v1 v2 cY sa sl sc pa pl pc ka kl kc,w'.heap[m]?=some (.cells #[v0,v1,v2,ae sa sl sc,ae pa pl pc,ae ka kl kc,cY] 170)/\T i y c f sa sl sc pa pl pc ka kl kc w')/\(¬(f=0\/f=1)->T i y c f none 0 0 none 0 0 none 0 0 w')))):ao 45 #[aH z,ae bX L bY,ab self,ab next] w (Q6 aP rng cD T w):=by
 have cw:Hid (∃bn aX bE,(bn=w.alloc bE/\aX=w.heap.size/\bE=.cells #[ab 0,ab 0,af ⟨#[]⟩,ae none 0 0,ab 0,ae none 0 0,ae none 0 0,ae none 0 0] 117)/\am w bn/\bn.heap[aX]?=some bE/\w.heap.size<bn.heap.size/\Hid (aX=w.heap.size)):=⟨_,_,_,⟨rfl,rfl,rfl⟩,aS _ _,aD _ _,by simp,rfl⟩;go_enter func45,ntmps45;go_upto_region 1 with fail;obtain⟨bn,j,bE,⟨bW,cQ,cP⟩,cM,bV,cO,aa⟩:=cw.out;rw[cP]at bW bV;rw[<-bW,<-cQ];have br:=aq cM;have bI:=aq bV;have ck:=aq cO;clear bW cQ cP cM bV cO cw;go_wp2_with fail;refine(cu _ br).mono ?_;rintro e b8 ⟨y0,y1,y2,ya,yl,yc,rfl,bp⟩;have bF:=aq (br.trans (bp.mono br.size));have bJ:Hid (b8.heap[j]?=_):=(bp.block j (aI.1 bI).1).trans bI;have cl:=aq (aW ck bp.size);clear bp bI br ck cu;have cz:Hid (∃U,U=b8.alloc (.cells #[ab y0,ab y1,af y2,ae ya yl yc] 31)/\am b8 U):=⟨_,rfl,aS _ _⟩;go_upto_region 2 with fail;obtain⟨U,cV,bD⟩:=cz.out;rw[<-cV];have Y:=aq (bF.trans (bD.mono bF.size));have d:Hid (U.heap[j]?=_):=(bD.block j (aI.1 bJ).1).trans bJ;have cm:=aq (aW cl bD.size);clear cV bD cz bJ bF cl;by_cases bA:aP=0;rotate_left
 ·have c4:=aq bA;have D:=ai d 0;have E:=ai d 1;have F:=ai d 2;have G:=ai d 3;have H:=ai d 4;have I:=ai d 5;have J:=ai d 6;have M:=ai d 7;simp only[dc,dt]at D E F G H I J M;have aY:∀g,U.frozen? ⟨j,g,none⟩=false:=λg=>by simp[World.frozen?,d.out]
  go_wp2_with fail;rw[CL];refine ay (v:=.tuple #[N1,ab aP]) (results_cell_tmp results45 rfl (hU _ rfl (dJ d)) rfl) rfl ?_;exact aj ⟨aP,rfl,kS _ Y aa,aj ⟨rfl,c4⟩⟩
 ·have cf:=aq λW=>ce W bA;have cd:=aq λW=>cc W bA;clear ce cc;subst bA;cases hr:rng
  ·rw[hr]at a2;have c9:=aq a2.out;clear a2;by_cases dm:self<1
   ·have D:=ai d 0;have E:=ai d 1;have F:=ai d 2;have G:=ai d 3;have H:=ai d 4;have I:=ai d 5;have J:=ai d 6;have M:=ai d 7;simp only[dc,dt]at D E F G H I J M;have aY:∀g,U.frozen? ⟨j,g,none⟩=false:=λg=>by simp[World.frozen?,d.out]
    go_wp2_with fail;rw[CL];refine ay (v:=.tuple #[N1,ab 1]) (results_cell_tmp results45 rfl (hU _ rfl (dJ d)) rfl) rfl ?_;exact aj ⟨1,rfl,kS _ Y aa,ak (aj ⟨rfl,rfl,by first|rfl|exact hr⟩)⟩
   ·by_cases dn:99<self
    ·have D:=ai d 0;have E:=ai d 1;have F:=ai d 2;have G:=ai d 3;have H:=ai d 4;have I:=ai d 5;have J:=ai d 6;have M:=ai d 7;simp only[dc,dt]at D E F G H I J M;have aY:∀g,U.frozen? ⟨j,g,none⟩=false:=λg=>by simp[World.frozen?,d.out]
     go_wp2_with fail;rw[CL];refine ay (v:=.tuple #[N1,ab 1]) (results_cell_tmp results45 rfl (hU _ rfl (dJ d)) rfl) rfl ?_;exact aj ⟨1,rfl,kS _ Y aa,ak (aj ⟨rfl,rfl,by first|rfl|exact hr⟩)⟩
    ·by_cases dp:next<1
     ·have D:=ai d 0;have E:=ai d 1;have F:=ai d 2;have G:=ai d 3;have H:=ai d 4;have I:=ai d 5;have J:=ai d 6;have M:=ai d 7;simp only[dc,dt]at D E F G H I J M;have aY:∀g,U.frozen? ⟨j,g,none⟩=false:=λg=>by simp[World.frozen?,d.out]
      go_wp2_with fail;rw[CL];refine ay (v:=.tuple #[N1,ab 1]) (results_cell_tmp results45 rfl (hU _ rfl (dJ d)) rfl) rfl ?_;exact aj ⟨1,rfl,kS _ Y aa,ak (aj ⟨rfl,rfl,by first|rfl|exact hr⟩)⟩
     ·by_cases dq:92<next
      ·have D:=ai d 0;have E:=ai d 1;have F:=ai d 2;have G:=ai d 3;have H:=ai d 4;have I:=ai d 5;have J:=ai d 6;have M:=ai d 7;simp only[dc,dt]at D E F G H I J M;have aY:∀g,U.frozen? ⟨j,g,none⟩=false:=λg=>by simp[World.frozen?,d.out]
       go_wp2_with fail;rw[CL];refine ay (v:=.tuple #[N1,ab 1]) (results_cell_tmp results45 rfl (hU _ rfl (dJ d)) rfl) rfl ?_;exact aj ⟨1,rfl,kS _ Y aa,ak (aj ⟨rfl,rfl,by first|rfl|exact hr⟩)⟩
      ·exfalso;have k:=c9.out;have bR:1<=self:=by omega
       have bS:self<=99:=by omega
       have bT:1<=next:=by omega
       have bU:next<=92:=by omega
       simp[bR,bS,bT,bU]at k
  ·rw[hr]at a2;have da:=aq a2.out;have ⟨bR,bS,bT,bU⟩:1<=self/\self<=99/\1<=next/\next<=92:=by
    have k:=da.out;simp only[Bool.true_eq,aK,cr]at k;exact⟨k.1.1.1,k.1.1.2,k.1.2,k.2⟩
   have dm:¬self<1:=by omega
   have dn:¬99<self:=by omega
   have dp:¬next<1:=by omega
   have dq:¬92<next:=by omega
   have dj:ah U z 0 (af name):=(Y.cell (p:=⟨z,0,none⟩) dk).trans c7;have c2:=aq λW=>cd W hr;clear bR bS bT bU a2 cd;go_wp2_with fail;refine(cf U Y).mono ?_;rintro e dH ⟨rfl,bq⟩;have a6:=aq (Y.trans (bq.mono Y.size));have bw:=aq ((bq.block j (aI.1 d).1).trans d);have c5:=aq (aW cm bq.size);clear bq cf d Y cm dj;go_wp2_with fail;refine(c2 dH a6).mono ?_;rintro e ad (⟨rfl,P⟩|⟨i,y,c,l,r,rfl,P⟩)
   ·have aG:=aq (a6.trans (P.1.mono a6.size));have aZ:=aq ((P.1.block j (aI.1 bw).1).trans bw);have a9:Hid (∃A a,(A=ad.alloc (.cells #[ab 0,ab 0,ab 0,af ⟨#[]⟩,ae none 0 0,ab 0,ab 0,af ⟨#[]⟩,ae none 0 0,ab 0,ab 0,af ⟨#[]⟩,ae none 0 0,ae none 0 0,ab 0,ab 0,af ⟨#[]⟩,ae none 0 0,ae none 0 0] 164)/\a=ad.heap.size)/\Hid (am ad A/\A.heap[a]?=some (.cells #[ab 0,ab 0,ab 0,af ⟨#[]⟩,ae none 0 0,ab 0,ab 0,af ⟨#[]⟩,ae none 0 0,ab 0,ab 0,af ⟨#[]⟩,ae none 0 0,ae none 0 0,ab 0,ab 0,af ⟨#[]⟩,ae none 0 0,ae none 0 0] 164)/\ad.heap.size<=a)):=⟨_,_,⟨rfl,rfl⟩,aS _ _,aD _ _,av _⟩;dsimp only
    iterate 13 go_step
    obtain⟨A,a,⟨bi,bg⟩,B⟩:=a9.out;rw[<-bi,<-bg];clear bi bg;have a0:Hid (A.there a 0 19):=dJ B.2.1;have aN:=aq (aI.1 aZ).1;have ba:Hid (∃wf,wf=A.setCells a 0 GO.toArray.toList/\Hid (bB (λaX=>aX=a) A wf)):=⟨_,rfl,(eL a _ 0 A).1⟩;refine wpList_store_mid rfl 164 (.tmp 12) (.tmp 49) rfl a 0 GO.toArray rfl rfl a0 jg FB ?_;obtain⟨wf,bj,an⟩:=ba.out;rw[<-bj];clear bj a0 ba a9;have c0:=aq ((aG.trans (B.1.mono aG.size)).trans (an.below (by have:=aG.size;have:=B.1.size;omega) λb bd e=>by have:=aG.size;have:=B.2.2;omega));have Z:=aq ((an.block j (aW aN B.1.size) (λe=>by have:=aN.out;have:=B.2.2;omega)).trans ((B.1.block j aN).trans aZ));have c6:=aq P.2;clear an aZ aG P B;have D:=ai Z 0;have E:=ai Z 1;have F:=ai Z 2;have G:=ai Z 3;have H:=ai Z 4;have I:=ai Z 5;have J:=ai Z 6;have M:=ai Z 7;simp only[dc,dt]at D E F G H I J M;have aY:∀g,wf.frozen? ⟨j,g,none⟩=false:=λg=>by simp[World.frozen?,Z.out]
    go_wp2_with fail;rw[CL];refine ay (v:=.tuple #[N1,ab 4]) (results_cell_tmp results45 rfl (hU _ rfl (dJ Z)) rfl) rfl ?_;exact aj ⟨4,rfl,kS _ c0 aa,ak (ak ⟨rfl,rfl,hr,c6⟩)⟩
   ·have aG:=aq (a6.trans (P.1.mono a6.size));have aZ:=aq ((P.1.block j (aI.1 bw).1).trans bw);have a9:Hid (∃A a,(A=ad.alloc (.cells #[ab 0,ab 0,ab 0,af ⟨#[]⟩,ae none 0 0,ab 0,ab 0,af ⟨#[]⟩,ae none 0 0,ab 0,ab 0,af ⟨#[]⟩,ae none 0 0,ae none 0 0,ab 0,ab 0,af ⟨#[]⟩,ae none 0 0,ae none 0 0] 164)/\a=ad.heap.size)/\Hid (am ad A/\A.heap[a]?=some (.cells #[ab 0,ab 0,ab 0,af ⟨#[]⟩,ae none 0 0,ab 0,ab 0,af ⟨#[]⟩,ae none 0 0,ab 0,ab 0,af ⟨#[]⟩,ae none 0 0,ae none 0 0,ab 0,ab 0,af ⟨#[]⟩,ae none 0 0,ae none 0 0] 164)/\ad.heap.size<=a)):=⟨_,_,⟨rfl,rfl⟩,aS _ _,aD _ _,av _⟩;dsimp only
    iterate 13 go_step
    obtain⟨A,a,⟨bi,bg⟩,B⟩:=a9.out;rw[<-bi,<-bg];clear bi bg;have a0:Hid (A.there a 0 19):=dJ B.2.1;have aN:=aq (aI.1 aZ).1;have ba:Hid (∃wf,wf=A.setCells a 0 (DG i y c (some ⟨l,0,none⟩) 4 r).toArray.toList/\Hid (wf.rangeAt a 0 (DG i y c (some ⟨l,0,none⟩) 4 r)/\bB (λaX=>aX=a) A wf)):=⟨_,rfl,World.rangeAt_setCells_same A a 0 _ a0,(eL a _ 0 A).1⟩;refine wpList_store_mid rfl 164 (.tmp 12) (.tmp 49) rfl a 0 (DG i y c (some ⟨l,0,none⟩) 4 r).toArray rfl rfl a0 jg (FC i y c _ 4 r) ?_;obtain⟨wf,bj,an⟩:=ba.out;rw[<-bj];clear bj a0 ba a9;have bs:Hid (am ad wf):=B.1.trans (an.2.below B.1.size λb bd e=>by have:=B.2.2;omega);have bt:Hid (∀W:ag,wf.heap[a]?=W.heap[a]? ->W.rangeAt a 0 (DG i y c (some ⟨l,0,none⟩) 4 r)):=λW dg g v be=>by
     have:=an.1 g v be;simp only[World.cell?,<-dg]at this ⊢;exact this
    have bM:=aq B.2.2;have a7:Hid (a<wf.heap.size):=aW (aI.1 B.2.1).1 an.2.size;have cZ:ah wf a 0 (ab i):=an.1 0 _ rfl;clear B an;obtain⟨ma,aV,aU,⟨bz,f7⟩,c3⟩:=cn.out i y c l r ad wf P.2.2.2.2 bs;have c1:=aq (⟨P.2.1,P.2.2.1⟩:_/\_);have dT:(i:Int)<=1000000:=by have:=P.2.2.2.1;omega
    have dS:(0:Int)<=(i:Int):=by omega
    have dV:IntKind.i64.wrap ((i:Int)+1)=(i:Int)+1:=by
     rw[IntKind.wrap_i64];omega
    clear P cn;go_upto_region 9 with fail;have b9:Hid (am wf wf.drew):=(aA _ _).drew;have Q:wf.drew.cell? ⟨z,7,none⟩=some (ae ma aV aU)/\wf.drew.cell? ⟨a,0,none⟩=some (ab i):=⟨bz,cZ⟩;clear bz cZ f7;refine wp_region_noPanic ?_;refine jU (λw'=>ah w' z 7 (ae ma aV aU)/\ah w' a 0 (ab i)) 13 (by kernel_rfl) ?_
    try simp only[eh]
    refine bf (i:=0) (v:= ?_) rfl (by kernel_rfl) (by kernel_rfl) (by kernel_rfl) (by kernel_rfl) (λ_ _ _ k=>k) rfl ?_ Q ?_;rotate_left
    ·intro w' s
     try dsimp only at s
     go_simp
     try with_reducible rfl
    try simp only[Act.put]
    refine bf (i:=1) (v:= ?_) rfl (by kernel_rfl) (by kernel_rfl) (by kernel_rfl) (by kernel_rfl) (λ_ _ _ k=>k) rfl ?_ Q ?_;rotate_left
    ·intro w' s
     try dsimp only at s
     go_simp
     try with_reducible rfl
    try simp only[Act.put]
    refine bf (i:=2) (v:= ?_) rfl (by kernel_rfl) (by kernel_rfl) (by kernel_rfl) (by kernel_rfl) (λ_ _ _ k=>k) rfl ?_ Q ?_;rotate_left
    ·intro w' s
     try dsimp only at s
     go_simp
     try with_reducible rfl
    try simp only[Act.put]
    refine bf (i:=3) (v:= ?_) rfl (by kernel_rfl) (by kernel_rfl) (by kernel_rfl) (by kernel_rfl) (λ_ _ _ k=>k) rfl ?_ Q ?_;rotate_left
    ·intro w' s
     try dsimp only at s
     go_simp
     try with_reducible rfl
    try simp only[Act.put]
    refine bf (i:=4) (v:= ?_) rfl (by kernel_rfl) (by kernel_rfl) (by kernel_rfl) (by kernel_rfl) (λ_ _ _ k=>k) rfl ?_ Q ?_;rotate_left
    ·intro w' s
     try dsimp only at s
     go_simp
     try with_reducible rfl
    try simp only[Act.put]
    refine bf (i:=5) (v:= ?_) rfl (by kernel_rfl) (by kernel_rfl) (by kernel_rfl) (by kernel_rfl) (λ_ _ _ k=>k) rfl ?_ Q ?_;rotate_left
    ·intro w' s
     try dsimp only at s
     go_simp
     try with_reducible rfl
    try simp only[Act.put]
    refine bf (i:=6) (v:= ?_) rfl (by kernel_rfl) (by kernel_rfl) (by kernel_rfl) (by kernel_rfl) (λ_ _ _ k=>k) rfl ?_ Q ?_;rotate_left
    ·intro w' s
     try dsimp only at s
     go_simp
     try with_reducible rfl
    try simp only[Act.put]
    refine bf (i:=7) (v:= ?_) rfl (by kernel_rfl) (by kernel_rfl) (by kernel_rfl) (by kernel_rfl) (λ_ _ _ k=>k) rfl ?_ Q ?_;rotate_left
    ·intro w' s
     try dsimp only at s
     go_simp
     try with_reducible rfl
    try simp only[Act.put]
    refine bf (i:=8) (v:= ?_) rfl (by kernel_rfl) (by kernel_rfl) (by kernel_rfl) (by kernel_rfl) (λ_ _ _ k=>k) rfl ?_ Q ?_;rotate_left
    ·intro w' s
     try dsimp only at s
     go_simp
     try with_reducible rfl
    try simp only[Act.put]
    refine bf (i:=9) (v:= ?_) rfl (by kernel_rfl) (by kernel_rfl) (by kernel_rfl) (by kernel_rfl) (λ_ _ _ k=>k) rfl ?_ Q ?_;rotate_left
    ·intro w' s
     try dsimp only at s
     go_simp
     try with_reducible rfl
    try simp only[Act.put]
    refine dl (i:=10) (by kernel_rfl) rfl rfl (λK aJ=>?_) (by decide)
    go_simp
    refine(c3 _ b9).mono ?_;rintro e bo ⟨bk,bm,bl,rfl,a3⟩;have bH:Hid (bB aE wf bo):=(aR b9 aE).trans a3.1 λ_ _ e=>e;have bc:ah bo z 7 (ae ma aV aU)/\ah bo a 0 (ab i):=⟨a3.2.1,(bH.cell 0 a7 (λe=>by have:=cq a e;have:=aG.size;have:=bM.out;omega)).trans Q.2⟩;have f7:=a3.2.2.1;have cp:=aq a3.2.2.2;have cj:Hid (bB aE wf (bo.setCell ⟨z,7,none⟩ (ae bk bm bl))):=bH.trans (bK _ _ _ _) λb _ e=>by rw[e];exact c8
    refine aJ _ _ (λ_=>bc) (λ_=>?_);clear aJ K a3 Q
    try simp only[Act.put,ch,dz,dy]
    refine dl (i:=11) (by kernel_rfl) rfl rfl (λK aJ=>?_) (by decide)
    go_simp
    refine aJ _ _ (λ_=>bc) (λ_=>?_);clear aJ K
    try simp only[Act.put,ch,dz,dy]
    refine bf (i:=12) (v:= ?_) rfl (by kernel_rfl) (by kernel_rfl) (by kernel_rfl) (by kernel_rfl) (λ_ _ _ k=>k) rfl ?_ bc ?_;rotate_left
    ·intro w' s
     try dsimp only at s
     go_simp
     try with_reducible rfl
    try simp only[Act.put,ch]
    have bz:=bc.1;refine jT (by kernel_rfl) rfl rfl (by kernel_rfl) (λK aJ=>?_)
    go_simp
    refine aJ _ _ (NoPanic.normal ?_);clear aJ K bz f7 bc
    try simp only[Act.put,ch,dz,dy]
    have cy:Hid (∃V,V=bo.setCell ⟨z,7,none⟩ (ae bk bm bl)/\Hid (bP i y c l r V/\bB aE wf V)):=⟨_,rfl,cp,cj⟩;obtain⟨V,cW,a4⟩:=cy.out;rw[<-cW];clear cW cy cp bH cj;have bN:=aq a4.2.size;have bu:Hid (∀b,w.heap.size<=b->¬aE b):=λb bd e=>by have:=cq b e;omega
    have cx:=aq aG.size;have bL:=aq ((a4.2.block j (aW aN bs.size) (bu j (by rw[aa.out];exact av _))).trans ((bs.block j aN).trans aZ));have bx:=aq (a4.2.block a a7 (bu a (by have:=bM.out;have:=cx.out;omega)));have ca:=aq (bt V bx.symm);have dI:ah V a 18 (ae (some ⟨l,0,none⟩) 4 r):=ca 18 _ rfl;have cA:Hid (∃u m,(u=V.alloc (.cells #[ae (some ⟨l,0,none⟩) 4 r,ab self,ab next,ae none 0 0,ae none 0 0,ae none 0 0,.bool false] 170)/\m=V.heap.size)/\Hid (am V u/\u.heap[m]?=some (.cells #[ae (some ⟨l,0,none⟩) 4 r,ab self,ab next,ae none 0 0,ae none 0 0,ae none 0 0,.bool false] 170)/\V.heap.size<=m)):=⟨_,_,⟨rfl,rfl⟩,aS _ _,aD _ _,av _⟩;go_upto_region 11 with fail;obtain⟨u,m,⟨cX,aQ⟩,al⟩:=cA.out;rw[<-cX,<-aQ];clear cX aQ cA dI;have N:=aq (bt u (((al.1.block a (aW a7 bN)).trans bx).symm));have dr:ah u a 5 (ab c.1.1.1.1):=N 5 _ rfl;have ds:ah u a 6 (ab c.1.1.1.2.1):=N 6 _ rfl;have dx:ah u a 7 (af c.1.1.1.2.2):=N 7 _ rfl;have dA:ah u a 8 (ae c.1.1.2.1.1 c.1.1.2.2.length c.1.1.2.1.2):=N 8 _ rfl;have dB:ah u a 9 (ab c.1.2.1.1.1):=N 9 _ rfl;have dC:ah u a 10 (ab c.1.2.1.1.2.1):=N 10 _ rfl;have dD:ah u a 11 (af c.1.2.1.1.2.2):=N 11 _ rfl;have dE:ah u a 12 (ae c.1.2.1.2.1.1 c.1.2.1.2.2.length c.1.2.1.2.1.2):=N 12 _ rfl;have dF:ah u a 13 (ae c.2.1.1 c.2.2.length c.2.1.2):=N 13 _ rfl;have dG:ah u a 14 (ab c.1.2.2.1.1):=N 14 _ rfl;have du:ah u a 15 (ab c.1.2.2.1.2.1):=N 15 _ rfl;have dv:ah u a 16 (af c.1.2.2.1.2.2):=N 16 _ rfl;have dw:ah u a 17 (ae c.1.2.2.2.1.1 c.1.2.2.2.2.length c.1.2.2.2.1.2):=N 17 _ rfl;have cg:=aq (ci i y c l r V u m a4.1 al.1 al.2.2 al.2.1);go_wp2_with fail;refine cg.mono ?_;rintro e aL ⟨f,rfl,a5⟩;clear dr ds dx dA dB dC dD dE dF dG du dv dw cg;have dd:=aq a5.1.size;have db:=aq al.1.size;have aw:Hid (j≠m/\j≠l/\a≠m/\a≠l/\j<u.heap.size/\a<u.heap.size/\w.heap.size<=j/\w.heap.size<=a):=by
     have cK:=aa.out;have cL:=c5.out;have df:=c1.out;have dM:=bM.out;have dN:=a7.out;have dO:=bN.out;have dP:=al.2.2;have dQ:=db.out;have dR:=aN.out;have dK:=bs.size;have dL:=cx.out;exact⟨by omega,by omega,by omega,by omega,by omega,by omega,by omega,by omega⟩
    have cs:=aq ((a5.1.block j aw.2.2.2.2.1 (λe=>by
     rcases e with e|e|e
     ·exact bu j aw.2.2.2.2.2.2.1 e
     ·exact aw.1 e
     ·exact aw.2.1 e)).trans ((al.1.block j (aI.1 bL).1).trans bL))
    have cb:=aq (bt aL (((a5.1.block a aw.2.2.2.2.2.1 (λe=>by
     rcases e with e|e|e
     ·exact bu a aw.2.2.2.2.2.2.2 e
     ·exact aw.2.2.1 e
     ·exact aw.2.2.2.1 e)).trans ((al.1.block a (aW a7 bN)).trans bx)).symm))
    have cv:=aq a5.2;clear a5 N ca bL bx a4 al bt ci;have cB:Hid (∃t h,(t=aL.alloc (.cells #[ab 0,ab 0,af ⟨#[]⟩,ae none 0 0,ab f,ae none 0 0,ae none 0 0,ae none 0 0] 117)/\h=aL.heap.size)/\Hid (am aL t/\t.heap[h]?=some (.cells #[ab 0,ab 0,af ⟨#[]⟩,ae none 0 0,ab f,ae none 0 0,ae none 0 0,ae none 0 0] 117)/\aL.heap.size<=h)):=⟨_,_,⟨rfl,rfl⟩,aS _ _,aD _ _,av _⟩;go_upto_region 12 with fail;obtain⟨t,h,⟨cT,cR⟩,x⟩:=cB.out;rw[<-cT,<-cR];clear cT cR cB;have t4:ah t h 4 (ab f):=ai x.2.1 4;have bv:=aq ((x.1.block j (aI.1 cs).1).trans cs);have aM:Hid (j≠h/\a≠h/\a<aL.heap.size):=by
     have cK:=aw.out;have cL:=dd.out;have df:=x.2.2;exact⟨by omega,by omega,by omega⟩
    by_cases aT:f=0\/f=1
    ·by_cases bC:f=0
     case' pos=>have cN:(f==0)=true:=co.2 bC
     case' neg=>
      have cN:(f==0)=false:=gW.2 bC;have dh:(f==1)=true:=co.2 (aT.resolve_left bC)
     all_goals
      have a8:=aq bv.out;have O:=aq x.2.1;obtain⟨v0,v1,v2,cY,sa,sl,sc,pa,pl,pc,ka,kl,kc,aQ,cS⟩:=cv.out.1 aT;have bO:=aq cS;have bG:=aq ((x.1.block m (aI.1 aQ).1).trans aQ);have di:m≠h:=by
       have cK:=(aI.1 aQ).1;have cL:=x.2.2;omega
      have dU:h≠m:=λe=>di e.symm;clear aQ cS bv aT bC;have d3:ah t m 3 (ae sa sl sc):=ai bG 3;have d4:ah t m 4 (ae pa pl pc):=ai bG 4;have d5:ah t m 5 (ae ka kl kc):=ai bG 5;have cH:=ai O 5;have cI:=ai O 6;have cJ:=ai O 7;simp only[dc,dt]at cH cI cJ;have de:∀g,t.frozen? ⟨h,g,none⟩=false:=λg=>by simp[World.frozen?,O.out]
      go_upto_region 13 with fail;go_region_held3 (λW=>ah W m 3 (ae sa sl sc)/\ah W m 4 (ae pa pl pc)/\ah W m 5 (ae ka kl kc)) (first|(go_keep;done)|exact⟨d3,d4,d5⟩) ((fail));have cC:Hid (∃R,R=((t.setCell ⟨h,5,none⟩ (ae sa sl sc)).setCell ⟨h,6,none⟩ (ae pa pl pc)).setCell ⟨h,7,none⟩ (ae ka kl kc)/\Hid (bB (λb=>b=h) t R/\R.heap[h]?=some (.cells #[ab 0,ab 0,af ⟨#[]⟩,ae none 0 0,ab f,ae sa sl sc,ae pa pl pc,ae ka kl kc] 117))):=⟨_,rfl,bB.trans (bB.trans (bK t h 5 _) (bK _ h 6 _) λ_ _ e=>e) (bK _ h 7 _) λ_ _ e=>e,IK O _ _ _⟩;obtain⟨R,cU,X⟩:=cC.out;rw[<-cU];clear cU cC d3 d4 d5 cH cI cJ de t4;have ct:=aq ((X.1.block j (aI.1 a8).1 aM.1).trans a8);go_upto_region 14 with fail;have S:=aq (λ(g:Nat)(v:ar)(be:(DG i y c (some ⟨l,0,none⟩) 4 r)[g]?=some v)=>(X.1.cell (0+g) (aW aM.2.2 x.1.size) aM.2.1).trans ((x.1.cell (p:=⟨a,0+g,none⟩) aM.2.2).trans (cb g v be)));have bZ:ah R a 1 (ab y.1.1):=S 1 _ rfl;have b0:ah R a 2 (ab y.1.2.1):=S 2 _ rfl;have b1:ah R a 3 (af y.1.2.2):=S 3 _ rfl;have b2:ah R a 4 (ae y.2.1.1 y.2.2.length y.2.1.2):=S 4 _ rfl;have ax:=ai X.2 0;have az:=ai X.2 1;have aB:=ai X.2 2;have aC:=ai X.2 3;simp only[dc,dt]at ax az aB aC;have b7:∀g,R.frozen? ⟨h,g,none⟩=false:=λg=>by simp[World.frozen?,X.out.2]
      have bb:Hid (∃C,C=(((R.setCell ⟨h,0,none⟩ (ab y.1.1)).setCell ⟨h,1,none⟩ (ab y.1.2.1)).setCell ⟨h,2,none⟩ (af y.1.2.2)).setCell ⟨h,3,none⟩ (ae y.2.1.1 y.2.2.length y.2.1.2)/\Hid (bB (λb=>b=h) R C/\C.heap[h]?=some (.cells #[ab y.1.1,ab y.1.2.1,af y.1.2.2,ae y.2.1.1 y.2.2.length y.2.1.2,ab f,ae sa sl sc,ae pa pl pc,ae ka kl kc] 117))):=⟨_,rfl,oF R h 0 _ _ _ _,Ge X.2 _ _ _ _⟩;go_upto_region 15 with fail;obtain⟨C,bh,o⟩:=bb.out;rw[<-bh];clear bh bb bZ b0 b1 b2 ax az aB aC b7 S;have q:=aq ((o.1.block j (aI.1 ct).1 aM.1).trans ct);have ax:=ai o.2 0;have az:=ai o.2 1;have aB:=ai o.2 2;have aC:=ai o.2 3;have b3:=ai o.2 4;have b4:=ai o.2 5;have b5:=ai o.2 6;have b6:=ai o.2 7;have D:=ai q 0;have E:=ai q 1;have F:=ai q 2;have G:=ai q 3;have H:=ai q 4;have I:=ai q 5;have J:=ai q 6;have M:=ai q 7;simp only[dc,dt]at ax az aB aC b3 b4 b5 b6 D E F G H I J M;have aY:∀g,C.frozen? ⟨j,g,none⟩=false:=λg=>by simp[World.frozen?,q.out]
      go_wp2_with fail;rw[CL];refine ay (v:=.tuple #[PN y.1.1 y.1.2.1 y.1.2.2 y.2.1.1 y.2.2.length y.2.1.2 f sa sl sc pa pl pc ka kl kc,ab 0]) (results_cell_tmp results45 rfl (BZ _ rfl (dJ q)) rfl) rfl ?_;refine ak ⟨i,y,c,f,sa,sl,sc,pa,pl,pc,ka,kl,kc,rfl,rfl,by first|rfl|exact hr,aL,C,bO,((x.1.trans (X.1.below x.1.size λb bd e=>by have:=x.2.2;omega)).trans (o.1.below (aF x.1.size X.1.size) λb bd e=>by have:=x.2.2;omega)),?_⟩;rw[<-aa.out];exact(eL j _ 0 C).1.trans (aR ((aA _ _).drew) _) λ_ _ e=>e
    ·have bO:=aq (cv.2 aT);have cN:(f==0)=false:=gW.2 λe=>aT (aj e);have dh:(f==1)=false:=gW.2 λe=>aT (ak e);have a8:=aq bv.out;have O:=aq x.2.1;clear aT t4 bv;have t4:ah t h 4 (ab f):=ai O 4;go_upto_region 14 with fail;clear t4;have S:=aq (λg v be=>(x.1.cell (p:=⟨a,0+g,none⟩) aM.2.2).trans (cb g v be));have bZ:ah t a 1 (ab y.1.1):=S 1 _ rfl;have b0:ah t a 2 (ab y.1.2.1):=S 2 _ rfl;have b1:ah t a 3 (af y.1.2.2):=S 3 _ rfl;have b2:ah t a 4 (ae y.2.1.1 y.2.2.length y.2.1.2):=S 4 _ rfl;have ax:=ai O 0;have az:=ai O 1;have aB:=ai O 2;have aC:=ai O 3;simp only[dc,dt]at ax az aB aC;have b7:∀g,t.frozen? ⟨h,g,none⟩=false:=λg=>by simp[World.frozen?,O.out]
     have bb:Hid (∃C,C=(((t.setCell ⟨h,0,none⟩ (ab y.1.1)).setCell ⟨h,1,none⟩ (ab y.1.2.1)).setCell ⟨h,2,none⟩ (af y.1.2.2)).setCell ⟨h,3,none⟩ (ae y.2.1.1 y.2.2.length y.2.1.2)/\Hid (bB (λb=>b=h) t C/\C.heap[h]?=some (.cells #[ab y.1.1,ab y.1.2.1,af y.1.2.2,ae y.2.1.1 y.2.2.length y.2.1.2,ab f,ae none 0 0,ae none 0 0,ae none 0 0] 117))):=⟨_,rfl,oF t h 0 _ _ _ _,Ge O _ _ _ _⟩;go_upto_region 15 with fail;obtain⟨C,bh,o⟩:=bb.out;rw[<-bh];clear bh bb bZ b0 b1 b2 ax az aB aC b7 S;have q:=aq ((o.1.block j (aI.1 a8).1 aM.1).trans a8);have ax:=ai o.2 0;have az:=ai o.2 1;have aB:=ai o.2 2;have aC:=ai o.2 3;have b3:=ai o.2 4;have b4:=ai o.2 5;have b5:=ai o.2 6;have b6:=ai o.2 7;have D:=ai q 0;have E:=ai q 1;have F:=ai q 2;have G:=ai q 3;have H:=ai q 4;have I:=ai q 5;have J:=ai q 6;have M:=ai q 7;simp only[dc,dt]at ax az aB aC b3 b4 b5 b6 D E F G H I J M;have aY:∀g,C.frozen? ⟨j,g,none⟩=false:=λg=>by simp[World.frozen?,q.out]
     go_wp2_with fail;rw[CL];refine ay (v:=.tuple #[PN y.1.1 y.1.2.1 y.1.2.2 y.2.1.1 y.2.2.length y.2.1.2 f none 0 0 none 0 0 none 0 0,ab 0]) (results_cell_tmp results45 rfl (hU _ rfl (dJ q)) rfl) rfl ?_;refine ak ⟨i,y,c,f,none,0,0,none,0,0,none,0,0,rfl,rfl,by first|rfl|exact hr,aL,C,bO,(x.1.trans (o.1.below x.1.size λb bd e=>by have:=x.2.2;omega)),?_⟩;rw[<-aa.out];exact(eL j _ 0 C).1
end Go.Proofs.YtmmahddlcldmiaaGreat
