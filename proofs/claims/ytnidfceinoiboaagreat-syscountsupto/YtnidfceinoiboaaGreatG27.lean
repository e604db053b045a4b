/- What is proved here: the walk of proc's Step, over what its calls leave. No condition but that all lies in memory. -/
import Derived.Test.YtnidfceinoiboaaGreatG26
namespace Go.Proofs.YtnidfceinoiboaaGreat
open Go.RowKit
set_option maxRecDepth 100000
set_option maxHeartbeats 8000000
def KY(y0 y1:Int)(y2:ByteArray)(ya:Option Addr)(yl yc:Nat)(f:Int)(sa:Option Addr)(sl sc:Nat)(pa:Option Addr)(pl pc:Nat)(ka:Option Addr)(kl kc:Nat):Value:=.agg #[.int .i64 y0,.int .i64 y1,.string y2,.slice ya yl yc,.int .i64 f,.slice sa sl sc,.slice pa pl pc,.slice ka kl kc]
def Js:Value:=.agg #[.int .i64 0,.int .i64 0,.string ⟨#[]⟩,.slice none 0 0,.int .i64 0,.slice none 0 0,.slice none 0 0,.slice none 0 0]
def Ml{n:Nat}(d:Int)(rng:Bool)(j:Prop)(T:Nat->Tc->Cl (n+1)->Int->Option Addr->Nat->Nat->Option Addr->Nat->Nat->Option Addr->Nat->Nat->World->Prop)(w:World)(e:Ending)(w':World):Prop:=
 (∃g,e=.returned (.tuple #[Js,.int .i64 g])/\Hid (Below w.heap.size w w'/\((g=d/\d≠0)\/(g=1/\d=0/\rng=false)\/(g=4/\d=0/\rng=true/\j))))\/
  ∃(k:Nat)(a:Tc)(c:Cl (n+1))(f:Int)(sa:Option Addr)(sl sc:Nat)(pa:Option Addr)(pl pc:Nat)(ka:Option Addr)(kl kc:Nat),e=.returned (.tuple #[KY a.1.1 a.1.2.1 a.1.2.2 a.2.1.1 a.2.2.length a.2.1.2 f sa sl sc pa pl pc ka kl kc,.int .i64 0])/\Hid (d=0/\rng=true/\∃h i,T k a c f sa sl sc pa pl pc ka kl kc h/\Below h.heap.size h i/\bf (λb=>b=w.heap.size) i w')
theorem zP(w:World)(q:Nat)(v0 v1 v2 v3 a b c d:Value):(((((((w.setCell ⟨q,0,none⟩ v0).setCell ⟨q,1,none⟩ v1).setCell ⟨q,2,none⟩ v2).setCell ⟨q,3,none⟩ v3).setCell ⟨q,4,none⟩ a).setCell ⟨q,5,none⟩ b).setCell ⟨q,6,none⟩ c).setCell ⟨q,7,none⟩ d=w.setCells q 0 [v0,v1,v2,v3,a,b,c,d]:=rfl
theorem CM{w:World}{q:Nat}{f g h i a b c d:Value}{t:TypeId}(e:w.heap[q]?=some (.cells #[f,g,h,i,a,b,c,d] t))(v0 v1 v2 v3:Value):((((w.setCell ⟨q,0,none⟩ v0).setCell ⟨q,1,none⟩ v1).setCell ⟨q,2,none⟩ v2).setCell ⟨q,3,none⟩ v3).heap[q]?=some (.cells #[v0,v1,v2,v3,a,b,c,d] t):=by
 unfold World.setCell;simp[bJ,e]
theorem Ed{w:World}{q:Nat}{v0 v1 v2 v3 a f g h:Value}{t:TypeId}(e:w.heap[q]?=some (.cells #[v0,v1,v2,v3,a,f,g,h] t))(b c d:Value):(((w.setCell ⟨q,5,none⟩ b).setCell ⟨q,6,none⟩ c).setCell ⟨q,7,none⟩ d).heap[q]?=some (.cells #[v0,v1,v2,v3,a,b,c,d] t):=by
 unfold World.setCell;simp[bJ,e]
theorem uZ:(Tryz.prog.info? 99).map (·.size)=some 8:=by kernel_rfl
theorem fS{W:World}{q:Nat}(vs:List Value)(a:vs.length=8)(b:W.there q 0 8):(loadVar 99 ⟨q,0,none⟩).run Tryz.prog (W.setCells q 0 vs)=.ok (.agg vs.toArray) (W.setCells q 0 vs):=
 run_loadVar_mid (P:=Tryz.prog) (W.setCells q 0 vs) q 0 99 vs _ (World.rangeAt_setCells_same W q 0 vs (by rw[a];exact b)) Tryz.underlying99 rfl (by rw[a];exact uZ)
theorem yU{W:World}{q:Nat}(vs:List Value)(a:vs.length=8)(b:W.there q 0 8):(loadVar 99 ⟨q,0,none⟩).run Tryz.prog (W.setCells q 0 vs).drew=.ok (.agg vs.toArray) (W.setCells q 0 vs).drew:=
 run_loadVar_mid (P:=Tryz.prog) (W.setCells q 0 vs).drew q 0 99 vs _ ((World.rangeAt_drew _ _ _ _).2 (World.rangeAt_setCells_same W q 0 vs (by rw[a];exact b))) Tryz.underlying99 rfl (by rw[a];exact uZ)
theorem jJ{w W:World}{q:Nat}(vs:List Value)(a:Below w.heap.size w W)(d:q=w.heap.size):Below w.heap.size w (W.setCells q 0 vs):=a.trans ((dX q vs 0 W).1.below a.size λb c e=>by omega)
theorem Eu{n:Nat}(A:Nat)(name:ByteArray)(bQ:Option Addr)(L bR:Nat)(self next:Int)(aG:Int)(cv:Option Addr)(cu cw:Nat)(w:World)(ct:Prop)(K bE:Nat->Tc->Cl (n+1)->Nat->Nat->World->Prop)(T:Nat->Tc->Cl (n+1)->Int->Option Addr->Nat->Nat->Option Addr->Nat->Nat->Option Addr->Nat->Nat->World->Prop)(rng:Bool)(av:Nat->Prop)(dh:A<w.heap.size)(cg:Hid (∀b,av b->b<w.heap.size))(c5:Hid (av A))(aR:Hid (rng=(decide (1<=self) && decide (self<=99) && decide (1<=next) && decide (next<=92))))(ck:Hid (∀W,Below w.heap.size w W->Calls Tryz.prog 26 #[.slice bQ L bR] W λe w'=>∃y0 y1 y2 ya yl yc,e=.returned (.tuple #[.agg #[.int .i64 y0,.int .i64 y1,.string y2,.slice ya yl yc],.int .i64 aG])/\Hid (Below W.heap.size W w')))(c4:Hid (w.cell? ⟨A,0,none⟩=some (.string name)))(b6:Hid (∀W,aG=0->Below w.heap.size w W->Calls Tryz.prog 59 #[.slice bQ L bR,.string name] W λe w'=>e=.returned (.slice cv cu cw)/\Hid (Below W.heap.size W w')))(b4:Hid (∀W,aG=0->rng=true->Below w.heap.size w W->Calls Tryz.prog 58 #[.pointer (some ⟨A,0,none⟩),.slice cv cu cw] W λe w'=>(e=.returned (.tuple #[.agg Db.toArray,.bool false])/\Hid (Below W.heap.size W w'/\ct))\/∃(i:Nat)(y:Tc)(c:Cl (n+1))(l s:Nat),e=.returned (.tuple #[.agg (AD i y c (some ⟨l,0,none⟩) 4 s).toArray,.bool true])/\Hid (Below W.heap.size W w'/\W.heap.size<=l/\l<w'.heap.size/\i<=1000000/\K i y c l s w')))(ce:Hid (∀i y c l s aA W,K i y c l s aA->Below aA.heap.size aA W->∃ma aK aJ,(W.cell? ⟨A,7,none⟩=some (.slice ma aK aJ)/\W.frozen? ⟨A,7,none⟩=false)/\Hid (∀bF,Below W.heap.size W bF->Calls Tryz.prog 60 #[.slice ma aK aJ,.int .i64 i,.int .i64 ((i:Int)+1)] bF λe w'=>∃a8 ba a9,e=.returned (.slice a8 ba a9)/\Hid (bf av bF w'/\w'.cell? ⟨A,7,none⟩=some (.slice ma aK aJ)/\w'.frozen? ⟨A,7,none⟩=false/\bE i y c l s (w'.setCell ⟨A,7,none⟩ (.slice a8 ba a9))))))(b9:Hid (∀i y c l s aA W m,bE i y c l s aA->Below aA.heap.size aA W->aA.heap.size<=m->W.heap[m]?=some (.cells #[.slice (some ⟨l,0,none⟩) 4 s,.int .i64 self,.int .i64 next,.slice none 0 0,.slice none 0 0,.slice none 0 0,.bool false] 146)->Calls Tryz.prog 61 #[.pointer (some ⟨A,0,none⟩),L7 c,.pointer (some ⟨m,0,none⟩)] W λe w'=>∃f,e=.returned (.int .i64 f)/\Hid (bf (λb=>av b\/b=m\/b=l) W w'/\(f=0\/f=1->∃v0 v1 v2 cU sa sl sc pa pl pc ka kl kc,w'.heap[m]?=some (.cells #[v0,v1,v2,.slice sa sl sc,.slice pa pl pc,.slice ka kl kc,cU] 146)/\T i y c f sa sl sc pa pl pc ka kl kc w')/\(¬(f=0\/f=1)->T i y c f none 0 0 none 0 0 none 0 0 w')))):Calls Tryz.prog 34 #[.pointer (some ⟨A,0,none⟩),.slice bQ L bR,.int .i64 self,.int .i64 next] w (Ml aG rng ct T w):=by
 have cm:Hid (∃bb aN br,(bb=w.alloc br/\aN=w.heap.size/\br=.cells #[.int .i64 0,.int .i64 0,.string ⟨#[]⟩,.slice none 0 0,.int .i64 0,.slice none 0 0,.slice none 0 0,.slice none 0 0] 99)/\Below w.heap.size w bb/\bb.heap[aN]?=some br/\w.heap.size<bb.heap.size/\Hid (aN=w.heap.size)):=⟨_,_,_,⟨rfl,rfl,rfl⟩,(ah _ _).alloc (ag _) _,ax _ _,by simp,rfl⟩;go_enter Tryz.func34,Tryz.ntmps34;go_upto_region 1 with fail;obtain⟨bb,j,br,⟨bP,cK,cJ⟩,cF,bO,cI,aj⟩:=cm.out;rw[cJ]at bP bO;rw[<-bP,<-cK];have bg:=ai cF;have bx:=ai bO;have cb:=ai cI;clear bP cK cJ cF bO cI cm;go_wp2_with fail;refine(ck.out _ bg.out).mono ?_;rintro e bt ⟨y0,y1,y2,ya,yl,yc,rfl,bd⟩;have bu:=ai (bg.out.trans (bd.out.mono bg.out.size));have bz:Hid (bt.heap[j]?=_):=(bd.out.block j (aE.1 bx.out).1).trans bx.out;have cc:=ai (aL cb.out bd.out.size);clear bd bx bg cb ck;have cp:Hid (∃Y,Y=bt.alloc (.cells #[.int .i64 y0,.int .i64 y1,.string y2,.slice ya yl yc] 30)/\Below bt.heap.size bt Y):=⟨_,rfl,(ah _ _).alloc (ag _) _⟩;go_upto_region 2 with fail;obtain⟨Y,cQ,bq⟩:=cp.out;rw[<-cQ];have aa:=ai (bu.out.trans (bq.mono bu.out.size));have d:Hid (Y.heap[j]?=_):=(bq.block j (aE.1 bz.out).1).trans bz.out;have cd:=ai (aL cc.out bq.size);clear cQ bq cp bz bu cc;by_cases bo:aG=0;rotate_left
 ·have c1:=ai bo;have E:=ab d.out 0;have F:=ab d.out 1;have G:=ab d.out 2;have H:=ab d.out 3;have I:=ab d.out 4;have J:=ab d.out 5;have M:=ab d.out 6;have N:=ab d.out 7;simp only[cH,cT]at E F G H I J M N;have aO:∀g,Y.frozen? ⟨j,g,none⟩=false:=λg=>by simp[World.frozen?,d.out]
  go_wp2_with fail;rw[zP];refine ao (v:=.tuple #[Js,.int .i64 aG]) (results_cell_tmp Tryz.results34 rfl (fS _ rfl (dl d.out)) rfl) rfl ?_;exact ae ⟨aG,rfl,jJ _ aa.out aj.out,ae ⟨rfl,c1.out⟩⟩
 ·have b7:=ai λW=>b6.out W bo;have b5:=ai λW=>b4.out W bo;clear b6 b4;subst bo;cases hr:rng
  ·rw[hr]at aR;have c6:=ai aR.out;clear aR;by_cases di:self<1
   ·have E:=ab d.out 0;have F:=ab d.out 1;have G:=ab d.out 2;have H:=ab d.out 3;have I:=ab d.out 4;have J:=ab d.out 5;have M:=ab d.out 6;have N:=ab d.out 7;simp only[cH,cT]at E F G H I J M N;have aO:∀g,Y.frozen? ⟨j,g,none⟩=false:=λg=>by simp[World.frozen?,d.out]
    go_wp2_with fail;rw[zP];refine ao (v:=.tuple #[Js,.int .i64 1]) (results_cell_tmp Tryz.results34 rfl (fS _ rfl (dl d.out)) rfl) rfl ?_;exact ae ⟨1,rfl,jJ _ aa.out aj.out,af (ae ⟨rfl,rfl,by first|rfl|exact hr⟩)⟩
   ·by_cases dj:99<self
    ·have E:=ab d.out 0;have F:=ab d.out 1;have G:=ab d.out 2;have H:=ab d.out 3;have I:=ab d.out 4;have J:=ab d.out 5;have M:=ab d.out 6;have N:=ab d.out 7;simp only[cH,cT]at E F G H I J M N;have aO:∀g,Y.frozen? ⟨j,g,none⟩=false:=λg=>by simp[World.frozen?,d.out]
     go_wp2_with fail;rw[zP];refine ao (v:=.tuple #[Js,.int .i64 1]) (results_cell_tmp Tryz.results34 rfl (fS _ rfl (dl d.out)) rfl) rfl ?_;exact ae ⟨1,rfl,jJ _ aa.out aj.out,af (ae ⟨rfl,rfl,by first|rfl|exact hr⟩)⟩
    ·by_cases dk:next<1
     ·have E:=ab d.out 0;have F:=ab d.out 1;have G:=ab d.out 2;have H:=ab d.out 3;have I:=ab d.out 4;have J:=ab d.out 5;have M:=ab d.out 6;have N:=ab d.out 7;simp only[cH,cT]at E F G H I J M N;have aO:∀g,Y.frozen? ⟨j,g,none⟩=false:=λg=>by simp[World.frozen?,d.out]
      go_wp2_with fail;rw[zP];refine ao (v:=.tuple #[Js,.int .i64 1]) (results_cell_tmp Tryz.results34 rfl (fS _ rfl (dl d.out)) rfl) rfl ?_;exact ae ⟨1,rfl,jJ _ aa.out aj.out,af (ae ⟨rfl,rfl,by first|rfl|exact hr⟩)⟩
     ·by_cases dm:92<next
      ·have E:=ab d.out 0;have F:=ab d.out 1;have G:=ab d.out 2;have H:=ab d.out 3;have I:=ab d.out 4;have J:=ab d.out 5;have M:=ab d.out 6;have N:=ab d.out 7;simp only[cH,cT]at E F G H I J M N;have aO:∀g,Y.frozen? ⟨j,g,none⟩=false:=λg=>by simp[World.frozen?,d.out]
       go_wp2_with fail;rw[zP];refine ao (v:=.tuple #[Js,.int .i64 1]) (results_cell_tmp Tryz.results34 rfl (fS _ rfl (dl d.out)) rfl) rfl ?_;exact ae ⟨1,rfl,jJ _ aa.out aj.out,af (ae ⟨rfl,rfl,by first|rfl|exact hr⟩)⟩
      ·exfalso;have k:=c6.out;have bG:1<=self:=by omega
       have bI:self<=99:=by omega
       have bJ:1<=next:=by omega
       have bK:next<=92:=by omega
       simp[bG,bI,bJ,bK]at k
  ·rw[hr]at aR;have c7:=ai aR.out;have ⟨bG,bI,bJ,bK⟩:1<=self/\self<=99/\1<=next/\next<=92:=by
    have k:=c7.out;simp only[Bool.true_eq,az,bN]at k;exact⟨k.1.1.1,k.1.1.2,k.1.2,k.2⟩
   have di:¬self<1:=by omega
   have dj:¬99<self:=by omega
   have dk:¬next<1:=by omega
   have dm:¬92<next:=by omega
   have dg:Y.cell? ⟨A,0,none⟩=some (.string name):=(aa.out.cell (p:=⟨A,0,none⟩) dh).trans c4.out;have cY:=ai λW=>b5.out W hr;clear bG bI bJ bK aR b5;go_wp2_with fail;refine(b7.out Y aa.out).mono ?_;rintro e dB ⟨rfl,be⟩;have aV:=ai (aa.out.trans (be.out.mono aa.out.size));have bl:=ai ((be.out.block j (aE.1 d.out).1).trans d.out);have c2:=ai (aL cd.out be.out.size);clear be b7 d aa cd dg;go_wp2_with fail;refine(cY.out dB aV.out).mono ?_;rintro e Q (⟨rfl,R⟩|⟨i,y,c,l,s,rfl,R⟩)
   ·have ay:=ai (aV.out.trans (R.out.1.mono aV.out.size));have aP:=ai ((R.out.1.block j (aE.1 bl.out).1).trans bl.out);have aY:Hid (∃B a,(B=Q.alloc (.cells #[.int .i64 0,.int .i64 0,.int .i64 0,.string ⟨#[]⟩,.slice none 0 0,.int .i64 0,.int .i64 0,.string ⟨#[]⟩,.slice none 0 0,.int .i64 0,.int .i64 0,.string ⟨#[]⟩,.slice none 0 0,.slice none 0 0,.int .i64 0,.int .i64 0,.string ⟨#[]⟩,.slice none 0 0,.slice none 0 0] 140)/\a=Q.heap.size)/\Hid (Below Q.heap.size Q B/\B.heap[a]?=some (.cells #[.int .i64 0,.int .i64 0,.int .i64 0,.string ⟨#[]⟩,.slice none 0 0,.int .i64 0,.int .i64 0,.string ⟨#[]⟩,.slice none 0 0,.int .i64 0,.int .i64 0,.string ⟨#[]⟩,.slice none 0 0,.slice none 0 0,.int .i64 0,.int .i64 0,.string ⟨#[]⟩,.slice none 0 0,.slice none 0 0] 140)/\Q.heap.size<=a)):=⟨_,_,⟨rfl,rfl⟩,(ah _ _).alloc (ag _) _,ax _ _,ag _⟩;dsimp only
    iterate 13 go_step
    obtain⟨B,a,⟨a6,a4⟩,C⟩:=aY.out;rw[<-a6,<-a4];clear a6 a4;have aQ:Hid (B.there a 0 19):=dl C.out.2.1;have aF:=ai (aE.1 aP.out).1;have aZ:Hid (∃o,o=B.setCells a 0 Db.toArray.toList/\Hid (bf (λaN=>aN=a) B o)):=⟨_,rfl,(dX a _ 0 B).1⟩;refine wpList_store_mid rfl 140 (.tmp 12) (.tmp 49) rfl a 0 Db.toArray rfl rfl aQ.out gY Ci ?_;obtain⟨o,a7,al⟩:=aZ.out;rw[<-a7];clear a7 aQ aZ aY;have cW:=ai ((ay.out.trans (C.out.1.mono ay.out.size)).trans (al.out.below (by have:=ay.out.size;have:=C.out.1.size;omega) λb a2 e=>by have:=ay.out.size;have:=C.out.2.2;omega));have ad:=ai ((al.out.block j (aL aF.out C.out.1.size) (λe=>by have:=aF.out;have:=C.out.2.2;omega)).trans ((C.out.1.block j aF.out).trans aP.out));have c3:=ai R.out.2;clear al aP ay R C;have E:=ab ad.out 0;have F:=ab ad.out 1;have G:=ab ad.out 2;have H:=ab ad.out 3;have I:=ab ad.out 4;have J:=ab ad.out 5;have M:=ab ad.out 6;have N:=ab ad.out 7;simp only[cH,cT]at E F G H I J M N;have aO:∀g,o.frozen? ⟨j,g,none⟩=false:=λg=>by simp[World.frozen?,ad.out]
    go_wp2_with fail;rw[zP];refine ao (v:=.tuple #[Js,.int .i64 4]) (results_cell_tmp Tryz.results34 rfl (fS _ rfl (dl ad.out)) rfl) rfl ?_;exact ae ⟨4,rfl,jJ _ cW.out aj.out,af (af ⟨rfl,rfl,hr,c3.out⟩)⟩
   ·have ay:=ai (aV.out.trans (R.out.1.mono aV.out.size));have aP:=ai ((R.out.1.block j (aE.1 bl.out).1).trans bl.out);have aY:Hid (∃B a,(B=Q.alloc (.cells #[.int .i64 0,.int .i64 0,.int .i64 0,.string ⟨#[]⟩,.slice none 0 0,.int .i64 0,.int .i64 0,.string ⟨#[]⟩,.slice none 0 0,.int .i64 0,.int .i64 0,.string ⟨#[]⟩,.slice none 0 0,.slice none 0 0,.int .i64 0,.int .i64 0,.string ⟨#[]⟩,.slice none 0 0,.slice none 0 0] 140)/\a=Q.heap.size)/\Hid (Below Q.heap.size Q B/\B.heap[a]?=some (.cells #[.int .i64 0,.int .i64 0,.int .i64 0,.string ⟨#[]⟩,.slice none 0 0,.int .i64 0,.int .i64 0,.string ⟨#[]⟩,.slice none 0 0,.int .i64 0,.int .i64 0,.string ⟨#[]⟩,.slice none 0 0,.slice none 0 0,.int .i64 0,.int .i64 0,.string ⟨#[]⟩,.slice none 0 0,.slice none 0 0] 140)/\Q.heap.size<=a)):=⟨_,_,⟨rfl,rfl⟩,(ah _ _).alloc (ag _) _,ax _ _,ag _⟩;dsimp only
    iterate 13 go_step
    obtain⟨B,a,⟨a6,a4⟩,C⟩:=aY.out;rw[<-a6,<-a4];clear a6 a4;have aQ:Hid (B.there a 0 19):=dl C.out.2.1;have aF:=ai (aE.1 aP.out).1;have aZ:Hid (∃o,o=B.setCells a 0 (AD i y c (some ⟨l,0,none⟩) 4 s).toArray.toList/\Hid (o.rangeAt a 0 (AD i y c (some ⟨l,0,none⟩) 4 s)/\bf (λaN=>aN=a) B o)):=⟨_,rfl,World.rangeAt_setCells_same B a 0 _ aQ.out,(dX a _ 0 B).1⟩;refine wpList_store_mid rfl 140 (.tmp 12) (.tmp 49) rfl a 0 (AD i y c (some ⟨l,0,none⟩) 4 s).toArray rfl rfl aQ.out gY (Cj i y c _ 4 s) ?_;obtain⟨o,a7,al⟩:=aZ.out;rw[<-a7];clear a7 aQ aZ aY;have bh:Hid (Below Q.heap.size Q o):=C.out.1.trans (al.out.2.below C.out.1.size λb a2 e=>by have:=C.out.2.2;omega);have bi:Hid (∀W:World,o.heap[a]?=W.heap[a]? ->W.rangeAt a 0 (AD i y c (some ⟨l,0,none⟩) 4 s)):=λW dd g v a3=>by
     have:=al.out.1 g v a3;simp only[World.cell?,<-dd]at this ⊢;exact this
    have bB:=ai C.out.2.2;have aW:Hid (a<o.heap.size):=aL (aE.1 C.out.2.1).1 al.out.2.size;have cV:o.cell? ⟨a,0,none⟩=some (.int .i64 i):=al.out.1 0 _ rfl;clear C al;obtain⟨ma,aK,aJ,⟨bn,bM⟩,c0⟩:=ce.out i y c l s Q o R.out.2.2.2.2 bh.out;have cX:=ai (⟨R.out.2.1,R.out.2.2.1⟩:_/\_);have dM:(i:Int)<=1000000:=by have:=R.out.2.2.2.1;omega
    have dL:(0:Int)<=(i:Int):=by omega
    have dO:IntKind.i64.wrap ((i:Int)+1)=(i:Int)+1:=by
     rw[IntKind.wrap_i64];omega
    clear R ce;go_upto_region 9 with fail;have b1:Hid (Below o.heap.size o o.drew):=(ah _ _).drew;have S:o.drew.cell? ⟨A,7,none⟩=some (.slice ma aK aJ)/\o.drew.cell? ⟨a,0,none⟩=some (.int .i64 i):=⟨bn,cV⟩;clear bn cV bM;refine wp_region_noPanic ?_;refine iR (λw'=>w'.cell? ⟨A,7,none⟩=some (.slice ma aK aJ)/\w'.cell? ⟨a,0,none⟩=some (.int .i64 i)) 13 (by kernel_rfl) ?_
    try simp only[eQ]
    refine aM (i:=0) (v:= ?_) rfl (by kernel_rfl) (by kernel_rfl) (by kernel_rfl) (by kernel_rfl) (λ_ _ _ k=>k) rfl ?_ S ?_;rotate_left
    ·intro w' t
     try dsimp only at t
     go_simp
     try with_reducible rfl
    try simp only[Act.put]
    refine aM (i:=1) (v:= ?_) rfl (by kernel_rfl) (by kernel_rfl) (by kernel_rfl) (by kernel_rfl) (λ_ _ _ k=>k) rfl ?_ S ?_;rotate_left
    ·intro w' t
     try dsimp only at t
     go_simp
     try with_reducible rfl
    try simp only[Act.put]
    refine aM (i:=2) (v:= ?_) rfl (by kernel_rfl) (by kernel_rfl) (by kernel_rfl) (by kernel_rfl) (λ_ _ _ k=>k) rfl ?_ S ?_;rotate_left
    ·intro w' t
     try dsimp only at t
     go_simp
     try with_reducible rfl
    try simp only[Act.put]
    refine aM (i:=3) (v:= ?_) rfl (by kernel_rfl) (by kernel_rfl) (by kernel_rfl) (by kernel_rfl) (λ_ _ _ k=>k) rfl ?_ S ?_;rotate_left
    ·intro w' t
     try dsimp only at t
     go_simp
     try with_reducible rfl
    try simp only[Act.put]
    refine aM (i:=4) (v:= ?_) rfl (by kernel_rfl) (by kernel_rfl) (by kernel_rfl) (by kernel_rfl) (λ_ _ _ k=>k) rfl ?_ S ?_;rotate_left
    ·intro w' t
     try dsimp only at t
     go_simp
     try with_reducible rfl
    try simp only[Act.put]
    refine aM (i:=5) (v:= ?_) rfl (by kernel_rfl) (by kernel_rfl) (by kernel_rfl) (by kernel_rfl) (λ_ _ _ k=>k) rfl ?_ S ?_;rotate_left
    ·intro w' t
     try dsimp only at t
     go_simp
     try with_reducible rfl
    try simp only[Act.put]
    refine aM (i:=6) (v:= ?_) rfl (by kernel_rfl) (by kernel_rfl) (by kernel_rfl) (by kernel_rfl) (λ_ _ _ k=>k) rfl ?_ S ?_;rotate_left
    ·intro w' t
     try dsimp only at t
     go_simp
     try with_reducible rfl
    try simp only[Act.put]
    refine aM (i:=7) (v:= ?_) rfl (by kernel_rfl) (by kernel_rfl) (by kernel_rfl) (by kernel_rfl) (λ_ _ _ k=>k) rfl ?_ S ?_;rotate_left
    ·intro w' t
     try dsimp only at t
     go_simp
     try with_reducible rfl
    try simp only[Act.put]
    refine aM (i:=8) (v:= ?_) rfl (by kernel_rfl) (by kernel_rfl) (by kernel_rfl) (by kernel_rfl) (λ_ _ _ k=>k) rfl ?_ S ?_;rotate_left
    ·intro w' t
     try dsimp only at t
     go_simp
     try with_reducible rfl
    try simp only[Act.put]
    refine aM (i:=9) (v:= ?_) rfl (by kernel_rfl) (by kernel_rfl) (by kernel_rfl) (by kernel_rfl) (λ_ _ _ k=>k) rfl ?_ S ?_;rotate_left
    ·intro w' t
     try dsimp only at t
     go_simp
     try with_reducible rfl
    try simp only[Act.put]
    refine cN (i:=10) (by kernel_rfl) rfl rfl (λK aB=>?_) (by decide)
    go_simp
    refine(c0.out _ b1.out).mono ?_;rintro e bc ⟨a8,ba,a9,rfl,aS⟩;have bw:Hid (bf av o bc):=(aC b1.out av).trans aS.out.1 λ_ _ e=>e;have a1:bc.cell? ⟨A,7,none⟩=some (.slice ma aK aJ)/\bc.cell? ⟨a,0,none⟩=some (.int .i64 i):=⟨aS.out.2.1,(bw.out.cell 0 aW.out (λe=>by have:=cg.out a e;have:=ay.out.size;have:=bB.out;omega)).trans S.2⟩;have bM:=aS.out.2.2.1;have cf:=ai aS.out.2.2.2;have ca:Hid (bf av o (bc.setCell ⟨A,7,none⟩ (.slice a8 ba a9))):=bw.out.trans (bH _ _ _ _) λb _ e=>by rw[e];exact c5.out
    refine aB.out _ _ (λ_=>a1) (λ_=>?_);clear aB K aS S
    try simp only[Act.put,bL,da,cZ]
    refine cN (i:=11) (by kernel_rfl) rfl rfl (λK aB=>?_) (by decide)
    go_simp
    refine aB.out _ _ (λ_=>a1) (λ_=>?_);clear aB K
    try simp only[Act.put,bL,da,cZ]
    refine aM (i:=12) (v:= ?_) rfl (by kernel_rfl) (by kernel_rfl) (by kernel_rfl) (by kernel_rfl) (λ_ _ _ k=>k) rfl ?_ a1 ?_;rotate_left
    ·intro w' t
     try dsimp only at t
     go_simp
     try with_reducible rfl
    try simp only[Act.put,bL]
    have bn:=a1.1;refine iQ (by kernel_rfl) rfl rfl (by kernel_rfl) (λK aB=>?_)
    go_simp
    refine aB.out _ _ (NoPanic.normal ?_);clear aB K bn bM a1
    try simp only[Act.put,bL,da,cZ]
    have co:Hid (∃V,V=bc.setCell ⟨A,7,none⟩ (.slice a8 ba a9)/\Hid (bE i y c l s V/\bf av o V)):=⟨_,rfl,cf.out,ca.out⟩;obtain⟨V,cR,aT⟩:=co.out;rw[<-cR];clear cR co cf bw ca;have bC:=ai aT.out.2.size;have bj:Hid (∀b,w.heap.size<=b->¬av b):=λb a2 e=>by have:=cg.out b e;omega
    have cn:=ai ay.out.size;have bA:=ai ((aT.out.2.block j (aL aF.out bh.out.size) (bj.out j (by rw[aj.out];exact ag _))).trans ((bh.out.block j aF.out).trans aP.out));have bm:=ai (aT.out.2.block a aW.out (bj.out a (by have:=bB.out;have:=cn.out;omega)));have b2:=ai (bi.out V bm.out.symm);have dC:V.cell? ⟨a,18,none⟩=some (.slice (some ⟨l,0,none⟩) 4 s):=b2.out 18 _ rfl;have cq:Hid (∃x m,(x=V.alloc (.cells #[.slice (some ⟨l,0,none⟩) 4 s,.int .i64 self,.int .i64 next,.slice none 0 0,.slice none 0 0,.slice none 0 0,.bool false] 146)/\m=V.heap.size)/\Hid (Below V.heap.size V x/\x.heap[m]?=some (.cells #[.slice (some ⟨l,0,none⟩) 4 s,.int .i64 self,.int .i64 next,.slice none 0 0,.slice none 0 0,.slice none 0 0,.bool false] 146)/\V.heap.size<=m)):=⟨_,_,⟨rfl,rfl⟩,(ah _ _).alloc (ag _) _,ax _ _,ag _⟩;go_upto_region 11 with fail;obtain⟨x,m,⟨cS,aH⟩,ak⟩:=cq.out;rw[<-cS,<-aH];clear cS aH cq dC;have O:=ai (bi.out x (((ak.out.1.block a (aL aW.out bC.out)).trans bm.out).symm));have dn:x.cell? ⟨a,5,none⟩=some (.int .i64 c.1.1.1.1):=O.out 5 _ rfl;have dp:x.cell? ⟨a,6,none⟩=some (.int .i64 c.1.1.1.2.1):=O.out 6 _ rfl;have dt:x.cell? ⟨a,7,none⟩=some (.string c.1.1.1.2.2):=O.out 7 _ rfl;have du:x.cell? ⟨a,8,none⟩=some (.slice c.1.1.2.1.1 c.1.1.2.2.length c.1.1.2.1.2):=O.out 8 _ rfl;have dv:x.cell? ⟨a,9,none⟩=some (.int .i64 c.1.2.1.1.1):=O.out 9 _ rfl;have dw:x.cell? ⟨a,10,none⟩=some (.int .i64 c.1.2.1.1.2.1):=O.out 10 _ rfl;have dx:x.cell? ⟨a,11,none⟩=some (.string c.1.2.1.1.2.2):=O.out 11 _ rfl;have dy:x.cell? ⟨a,12,none⟩=some (.slice c.1.2.1.2.1.1 c.1.2.1.2.2.length c.1.2.1.2.1.2):=O.out 12 _ rfl;have dz:x.cell? ⟨a,13,none⟩=some (.slice c.2.1.1 c.2.2.length c.2.1.2):=O.out 13 _ rfl;have dA:x.cell? ⟨a,14,none⟩=some (.int .i64 c.1.2.2.1.1):=O.out 14 _ rfl;have dq:x.cell? ⟨a,15,none⟩=some (.int .i64 c.1.2.2.1.2.1):=O.out 15 _ rfl;have dr:x.cell? ⟨a,16,none⟩=some (.string c.1.2.2.1.2.2):=O.out 16 _ rfl;have ds:x.cell? ⟨a,17,none⟩=some (.slice c.1.2.2.2.1.1 c.1.2.2.2.2.length c.1.2.2.2.1.2):=O.out 17 _ rfl;have b8:=ai (b9.out i y c l s V x m aT.out.1 ak.out.1 ak.out.2.2 ak.out.2.1);go_wp2_with fail;refine b8.out.mono ?_;rintro e aw ⟨f,rfl,aU⟩;clear dn dp dt du dv dw dx dy dz dA dq dr ds b8;have c9:=ai aU.out.1.size;have c8:=ai ak.out.1.size;have am:Hid (j≠m/\j≠l/\a≠m/\a≠l/\j<x.heap.size/\a<x.heap.size/\w.heap.size<=j/\w.heap.size<=a):=by
     have cD:=aj.out;have cE:=c2.out;have dc:=cX.out;have dF:=bB.out;have dG:=aW.out;have dH:=bC.out;have dI:=ak.out.2.2;have dJ:=c8.out;have dK:=aF.out;have dD:=bh.out.size;have dE:=cn.out;exact⟨by omega,by omega,by omega,by omega,by omega,by omega,by omega,by omega⟩
    have ch:=ai ((aU.out.1.block j am.out.2.2.2.2.1 (λe=>by
     rcases e with e|e|e
     ·exact bj.out j am.out.2.2.2.2.2.2.1 e
     ·exact am.out.1 e
     ·exact am.out.2.1 e)).trans ((ak.out.1.block j (aE.1 bA.out).1).trans bA.out))
    have b3:=ai (bi.out aw (((aU.out.1.block a am.out.2.2.2.2.2.1 (λe=>by
     rcases e with e|e|e
     ·exact bj.out a am.out.2.2.2.2.2.2.2 e
     ·exact am.out.2.2.1 e
     ·exact am.out.2.2.2.1 e)).trans ((ak.out.1.block a (aL aW.out bC.out)).trans bm.out)).symm))
    have cl:=ai aU.out.2;clear aU O b2 bA bm aT ak bi b9;have cr:Hid (∃u h,(u=aw.alloc (.cells #[.int .i64 0,.int .i64 0,.string ⟨#[]⟩,.slice none 0 0,.int .i64 f,.slice none 0 0,.slice none 0 0,.slice none 0 0] 99)/\h=aw.heap.size)/\Hid (Below aw.heap.size aw u/\u.heap[h]?=some (.cells #[.int .i64 0,.int .i64 0,.string ⟨#[]⟩,.slice none 0 0,.int .i64 f,.slice none 0 0,.slice none 0 0,.slice none 0 0] 99)/\aw.heap.size<=h)):=⟨_,_,⟨rfl,rfl⟩,(ah _ _).alloc (ag _) _,ax _ _,ag _⟩;go_upto_region 12 with fail;obtain⟨u,h,⟨cO,cL⟩,z⟩:=cr.out;rw[<-cO,<-cL];clear cO cL cr;have bs:u.cell? ⟨h,4,none⟩=some (.int .i64 f):=ab z.out.2.1 4;have bk:=ai ((z.out.1.block j (aE.1 ch.out).1).trans ch.out);have aD:Hid (j≠h/\a≠h/\a<aw.heap.size):=by
     have cD:=am.out;have cE:=c9.out;have dc:=z.out.2.2;exact⟨by omega,by omega,by omega⟩
    by_cases aI:f=0\/f=1
    ·by_cases bp:f=0
     case' pos=>have cG:(f==0)=true:=ci.2 bp
     case' neg=>
      have cG:(f==0)=false:=gP.2 bp;have de:(f==1)=true:=ci.2 (aI.resolve_left bp)
     all_goals
      have aX:=ai bk.out;have P:=ai z.out.2.1;obtain⟨v0,v1,v2,cU,sa,sl,sc,pa,pl,pc,ka,kl,kc,aH,cM⟩:=cl.out.1 aI;have bD:=ai cM;have bv:=ai ((z.out.1.block m (aE.1 aH).1).trans aH);have df:m≠h:=by
       have cD:=(aE.1 aH).1;have cE:=z.out.2.2;omega
      have dN:h≠m:=λe=>df e.symm;clear aH cM bk aI bp;have cx:u.cell? ⟨m,3,none⟩=some (.slice sa sl sc):=ab bv.out 3;have cy:u.cell? ⟨m,4,none⟩=some (.slice pa pl pc):=ab bv.out 4;have cz:u.cell? ⟨m,5,none⟩=some (.slice ka kl kc):=ab bv.out 5;have cA:=ab P.out 5;have cB:=ab P.out 6;have cC:=ab P.out 7;simp only[cH,cT]at cA cB cC;have db:∀g,u.frozen? ⟨h,g,none⟩=false:=λg=>by simp[World.frozen?,P.out]
      go_upto_region 13 with fail;go_region_held3 (λW=>W.cell? ⟨m,3,none⟩=some (.slice sa sl sc)/\W.cell? ⟨m,4,none⟩=some (.slice pa pl pc)/\W.cell? ⟨m,5,none⟩=some (.slice ka kl kc)) (first|(go_keep;done)|exact⟨cx,cy,cz⟩) ((fail));have cs:Hid (∃U,U=((u.setCell ⟨h,5,none⟩ (.slice sa sl sc)).setCell ⟨h,6,none⟩ (.slice pa pl pc)).setCell ⟨h,7,none⟩ (.slice ka kl kc)/\Hid (bf (λb=>b=h) u U/\U.heap[h]?=some (.cells #[.int .i64 0,.int .i64 0,.string ⟨#[]⟩,.slice none 0 0,.int .i64 f,.slice sa sl sc,.slice pa pl pc,.slice ka kl kc] 99))):=⟨_,rfl,bf.trans (bf.trans (bH u h 5 _) (bH _ h 6 _) λ_ _ e=>e) (bH _ h 7 _) λ_ _ e=>e,Ed P.out _ _ _⟩;obtain⟨U,cP,Z⟩:=cs.out;rw[<-cP];clear cP cs cx cy cz cA cB cC db bs;have cj:=ai ((Z.out.1.block j (aE.1 aX.out).1 aD.out.1).trans aX.out);go_upto_region 14 with fail;have X:=ai (λ(g:Nat)(v:Value)(a3:(AD i y c (some ⟨l,0,none⟩) 4 s)[g]?=some v)=>(Z.out.1.cell (0+g) (aL aD.out.2.2 z.out.1.size) aD.out.2.1).trans ((z.out.1.cell (p:=⟨a,0+g,none⟩) aD.out.2.2).trans (b3.out g v a3)));have bS:U.cell? ⟨a,1,none⟩=some (.int .i64 y.1.1):=X.out 1 _ rfl;have bT:U.cell? ⟨a,2,none⟩=some (.int .i64 y.1.2.1):=X.out 2 _ rfl;have bU:U.cell? ⟨a,3,none⟩=some (.string y.1.2.2):=X.out 3 _ rfl;have bV:U.cell? ⟨a,4,none⟩=some (.slice y.2.1.1 y.2.2.length y.2.1.2):=X.out 4 _ rfl;have an:=ab Z.out.2 0;have ap:=ab Z.out.2 1;have aq:=ab Z.out.2 2;have ar:=ab Z.out.2 3;simp only[cH,cT]at an ap aq ar;have b0:∀g,U.frozen? ⟨h,g,none⟩=false:=λg=>by simp[World.frozen?,Z.out.2]
      have a0:Hid (∃D,D=(((U.setCell ⟨h,0,none⟩ (.int .i64 y.1.1)).setCell ⟨h,1,none⟩ (.int .i64 y.1.2.1)).setCell ⟨h,2,none⟩ (.string y.1.2.2)).setCell ⟨h,3,none⟩ (.slice y.2.1.1 y.2.2.length y.2.1.2)/\Hid (bf (λb=>b=h) U D/\D.heap[h]?=some (.cells #[.int .i64 y.1.1,.int .i64 y.1.2.1,.string y.1.2.2,.slice y.2.1.1 y.2.2.length y.2.1.2,.int .i64 f,.slice sa sl sc,.slice pa pl pc,.slice ka kl kc] 99))):=⟨_,rfl,mQ U h 0 _ _ _ _,CM Z.out.2 _ _ _ _⟩;go_upto_region 15 with fail;obtain⟨D,a5,q⟩:=a0.out;rw[<-a5];clear a5 a0 bS bT bU bV an ap aq ar b0 X;have r:=ai ((q.out.1.block j (aE.1 cj.out).1 aD.out.1).trans cj.out);have an:=ab q.out.2 0;have ap:=ab q.out.2 1;have aq:=ab q.out.2 2;have ar:=ab q.out.2 3;have bW:=ab q.out.2 4;have bX:=ab q.out.2 5;have bY:=ab q.out.2 6;have bZ:=ab q.out.2 7;have E:=ab r.out 0;have F:=ab r.out 1;have G:=ab r.out 2;have H:=ab r.out 3;have I:=ab r.out 4;have J:=ab r.out 5;have M:=ab r.out 6;have N:=ab r.out 7;simp only[cH,cT]at an ap aq ar bW bX bY bZ E F G H I J M N;have aO:∀g,D.frozen? ⟨j,g,none⟩=false:=λg=>by simp[World.frozen?,r.out]
      go_wp2_with fail;rw[zP];refine ao (v:=.tuple #[KY y.1.1 y.1.2.1 y.1.2.2 y.2.1.1 y.2.2.length y.2.1.2 f sa sl sc pa pl pc ka kl kc,.int .i64 0]) (results_cell_tmp Tryz.results34 rfl (yU _ rfl (dl r.out)) rfl) rfl ?_;refine af ⟨i,y,c,f,sa,sl,sc,pa,pl,pc,ka,kl,kc,rfl,rfl,by first|rfl|exact hr,aw,D,bD.out,((z.out.1.trans (Z.out.1.below z.out.1.size λb a2 e=>by have:=z.out.2.2;omega)).trans (q.out.1.below (au z.out.1.size Z.out.1.size) λb a2 e=>by have:=z.out.2.2;omega)),?_⟩;rw[<-aj.out];exact(dX j _ 0 D).1.trans (aC ((ah _ _).drew) _) λ_ _ e=>e
    ·have bD:=ai (cl.out.2 aI);have cG:(f==0)=false:=gP.2 λe=>aI (ae e);have de:(f==1)=false:=gP.2 λe=>aI (af e);have aX:=ai bk.out;have P:=ai z.out.2.1;clear aI bs bk;have bs:u.cell? ⟨h,4,none⟩=some (.int .i64 f):=ab P.out 4;go_upto_region 14 with fail;clear bs;have X:=ai (λg v a3=>(z.out.1.cell (p:=⟨a,0+g,none⟩) aD.out.2.2).trans (b3.out g v a3));have bS:u.cell? ⟨a,1,none⟩=some (.int .i64 y.1.1):=X.out 1 _ rfl;have bT:u.cell? ⟨a,2,none⟩=some (.int .i64 y.1.2.1):=X.out 2 _ rfl;have bU:u.cell? ⟨a,3,none⟩=some (.string y.1.2.2):=X.out 3 _ rfl;have bV:u.cell? ⟨a,4,none⟩=some (.slice y.2.1.1 y.2.2.length y.2.1.2):=X.out 4 _ rfl;have an:=ab P.out 0;have ap:=ab P.out 1;have aq:=ab P.out 2;have ar:=ab P.out 3;simp only[cH,cT]at an ap aq ar;have b0:∀g,u.frozen? ⟨h,g,none⟩=false:=λg=>by simp[World.frozen?,P.out]
     have a0:Hid (∃D,D=(((u.setCell ⟨h,0,none⟩ (.int .i64 y.1.1)).setCell ⟨h,1,none⟩ (.int .i64 y.1.2.1)).setCell ⟨h,2,none⟩ (.string y.1.2.2)).setCell ⟨h,3,none⟩ (.slice y.2.1.1 y.2.2.length y.2.1.2)/\Hid (bf (λb=>b=h) u D/\D.heap[h]?=some (.cells #[.int .i64 y.1.1,.int .i64 y.1.2.1,.string y.1.2.2,.slice y.2.1.1 y.2.2.length y.2.1.2,.int .i64 f,.slice none 0 0,.slice none 0 0,.slice none 0 0] 99))):=⟨_,rfl,mQ u h 0 _ _ _ _,CM P.out _ _ _ _⟩;go_upto_region 15 with fail;obtain⟨D,a5,q⟩:=a0.out;rw[<-a5];clear a5 a0 bS bT bU bV an ap aq ar b0 X;have r:=ai ((q.out.1.block j (aE.1 aX.out).1 aD.out.1).trans aX.out);have an:=ab q.out.2 0;have ap:=ab q.out.2 1;have aq:=ab q.out.2 2;have ar:=ab q.out.2 3;have bW:=ab q.out.2 4;have bX:=ab q.out.2 5;have bY:=ab q.out.2 6;have bZ:=ab q.out.2 7;have E:=ab r.out 0;have F:=ab r.out 1;have G:=ab r.out 2;have H:=ab r.out 3;have I:=ab r.out 4;have J:=ab r.out 5;have M:=ab r.out 6;have N:=ab r.out 7;simp only[cH,cT]at an ap aq ar bW bX bY bZ E F G H I J M N;have aO:∀g,D.frozen? ⟨j,g,none⟩=false:=λg=>by simp[World.frozen?,r.out]
     go_wp2_with fail;rw[zP];refine ao (v:=.tuple #[KY y.1.1 y.1.2.1 y.1.2.2 y.2.1.1 y.2.2.length y.2.1.2 f none 0 0 none 0 0 none 0 0,.int .i64 0]) (results_cell_tmp Tryz.results34 rfl (fS _ rfl (dl r.out)) rfl) rfl ?_;refine af ⟨i,y,c,f,none,0,0,none,0,0,none,0,0,rfl,rfl,by first|rfl|exact hr,aw,D,bD.out,(z.out.1.trans (q.out.1.below z.out.1.size λb a2 e=>by have:=z.out.2.2;omega)),?_⟩;rw[<-aj.out];exact(dX j _ 0 D).1
end Go.Proofs.YtnidfceinoiboaaGreat
