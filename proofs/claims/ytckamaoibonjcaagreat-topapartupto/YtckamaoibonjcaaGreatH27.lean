/- What is proved here: the walk of proc's Step, over what its calls leave. No condition but that all lies in memory. -/
import Derived.Test.YtckamaoibonjcaaGreatH26
namespace Go.Proofs.YtckamaoibonjcaaGreat
open Go.RowKit
set_option maxRecDepth 100000
set_option maxHeartbeats 8000000
def Nu(y0 y1:Int)(y2:ByteArray)(ya:Option Addr)(yl yc:Nat)(f:Int)(sa:Option Addr)(sl sc:Nat)(pa:Option Addr)(pl pc:Nat)(ka:Option Addr)(kl kc:Nat):Value:=.agg #[ab y0,ab y1,ae y2,.slice ya yl yc,ab f,.slice sa sl sc,.slice pa pl pc,.slice ka kl kc]
def LH:Value:=.agg #[ab 0,ab 0,ae ⟨#[]⟩,.slice none 0 0,ab 0,.slice none 0 0,.slice none 0 0,.slice none 0 0]
def OL{n:Nat}(d:Int)(rng:Bool)(j:Prop)(T:Nat->Tc->Cl (n+1)->Int->Option Addr->Nat->Nat->Option Addr->Nat->Nat->Option Addr->Nat->Nat->World->Prop)(w:World)(e:Ending)(w':World):Prop:=
 (∃g,e=.returned (.tuple #[LH,ab g])/\Hid (ai w w'/\((g=d/\d≠0)\/(g=1/\d=0/\rng=false)\/(g=4/\d=0/\rng=true/\j))))\/
  ∃(k:Nat)(a:Tc)(c:Cl (n+1))(f:Int)(sa:Option Addr)(sl sc:Nat)(pa:Option Addr)(pl pc:Nat)(ka:Option Addr)(kl kc:Nat),e=.returned (.tuple #[Nu a.1.1 a.1.2.1 a.1.2.2 a.2.1.1 a.2.2.length a.2.1.2 f sa sl sc pa pl pc ka kl kc,ab 0])/\Hid (d=0/\rng=true/\∃h i,T k a c f sa sl sc pa pl pc ka kl kc h/\ai h i/\bk (λb=>b=w.heap.size) i w')
theorem Bb(w:World)(q:Nat)(v0 v1 v2 v3 a b c d:Value):(((((((w.setCell ⟨q,0,none⟩ v0).setCell ⟨q,1,none⟩ v1).setCell ⟨q,2,none⟩ v2).setCell ⟨q,3,none⟩ v3).setCell ⟨q,4,none⟩ a).setCell ⟨q,5,none⟩ b).setCell ⟨q,6,none⟩ c).setCell ⟨q,7,none⟩ d=w.setCells q 0 [v0,v1,v2,v3,a,b,c,d]:=rfl
theorem Er{w:World}{q:Nat}{f g h i a b c d:Value}{t:TypeId}(e:w.heap[q]?=some (.cells #[f,g,h,i,a,b,c,d] t))(v0 v1 v2 v3:Value):((((w.setCell ⟨q,0,none⟩ v0).setCell ⟨q,1,none⟩ v1).setCell ⟨q,2,none⟩ v2).setCell ⟨q,3,none⟩ v3).heap[q]?=some (.cells #[v0,v1,v2,v3,a,b,c,d] t):=by
 unfold World.setCell;simp[bG,e]
theorem Gi{w:World}{q:Nat}{v0 v1 v2 v3 a f g h:Value}{t:TypeId}(e:w.heap[q]?=some (.cells #[v0,v1,v2,v3,a,f,g,h] t))(b c d:Value):(((w.setCell ⟨q,5,none⟩ b).setCell ⟨q,6,none⟩ c).setCell ⟨q,7,none⟩ d).heap[q]?=some (.cells #[v0,v1,v2,v3,a,b,c,d] t):=by
 unfold World.setCell;simp[bG,e]
theorem wa:(Tryz.prog.info? 112).map (·.size)=some 8:=by kernel_rfl
theorem gw{W:World}{q:Nat}(vs:List Value)(a:vs.length=8)(b:W.there q 0 8):(loadVar 112 ⟨q,0,none⟩).run Tryz.prog (W.setCells q 0 vs)=.ok (.agg vs.toArray) (W.setCells q 0 vs):=
 run_loadVar_mid (P:=Tryz.prog) (W.setCells q 0 vs) q 0 112 vs _ (World.rangeAt_setCells_same W q 0 vs (by rw[a];exact b)) Tryz.underlying112 rfl (by rw[a];exact wa)
theorem Ax{W:World}{q:Nat}(vs:List Value)(a:vs.length=8)(b:W.there q 0 8):(loadVar 112 ⟨q,0,none⟩).run Tryz.prog (W.setCells q 0 vs).drew=.ok (.agg vs.toArray) (W.setCells q 0 vs).drew:=
 run_loadVar_mid (P:=Tryz.prog) (W.setCells q 0 vs).drew q 0 112 vs _ ((World.rangeAt_drew _ _ _ _).2 (World.rangeAt_setCells_same W q 0 vs (by rw[a];exact b))) Tryz.underlying112 rfl (by rw[a];exact wa)
theorem jT{w W:World}{q:Nat}(vs:List Value)(a:ai w W)(d:q=w.heap.size):ai w (W.setCells q 0 vs):=a.trans ((dV q vs 0 W).1.below a.size λb c e=>by omega)
theorem Gt{n:Nat}(A:Nat)(name:ByteArray)(bR:Option Addr)(L bT:Nat)(self next:Int)(aJ:Int)(cz:Option Addr)(cy cA:Nat)(w:World)(cx:Prop)(K bI:Nat->Tc->Cl (n+1)->Nat->Nat->World->Prop)(T:Nat->Tc->Cl (n+1)->Int->Option Addr->Nat->Nat->Option Addr->Nat->Nat->Option Addr->Nat->Nat->World->Prop)(rng:Bool)(aA:Nat->Prop)(dm:A<w.heap.size)(cl:Hid (∀b,aA b->b<w.heap.size))(c8:Hid (aA A))(aV:Hid (rng=(decide (1<=self) && decide (self<=99) && decide (1<=next) && decide (next<=92))))(co:Hid (∀W,ai w W->ak 34 #[.slice bR L bT] W λe w'=>∃y0 y1 y2 ya yl yc,e=.returned (.tuple #[.agg #[ab y0,ab y1,ae y2,.slice ya yl yc],ab aJ])/\Hid (ai W w')))(c7:Hid (w.cell? ⟨A,0,none⟩=some (ae name)))(cb:Hid (∀W,aJ=0->ai w W->ak 70 #[.slice bR L bT,ae name] W λe w'=>e=.returned (.slice cz cy cA)/\Hid (ai W w')))(b9:Hid (∀W,aJ=0->rng=true->ai w W->ak 69 #[.pointer (some ⟨A,0,none⟩),.slice cz cy cA] W λe w'=>(e=.returned (.tuple #[.agg EW.toArray,.bool false])/\Hid (ai W w'/\cx))\/∃(i:Nat)(y:Tc)(c:Cl (n+1))(l r:Nat),e=.returned (.tuple #[.agg (B7 i y c (some ⟨l,0,none⟩) 4 r).toArray,.bool true])/\Hid (ai W w'/\W.heap.size<=l/\l<w'.heap.size/\i<=1000000/\K i y c l r w')))(cj:Hid (∀i y c l r aU W,K i y c l r aU->ai aU W->∃ma aP aN,(W.cell? ⟨A,7,none⟩=some (.slice ma aP aN)/\W.frozen? ⟨A,7,none⟩=false)/\Hid (∀bJ,ai W bJ->ak 71 #[.slice ma aP aN,ab i,ab ((i:Int)+1)] bJ λe w'=>∃bc be bd,e=.returned (.slice bc be bd)/\Hid (bk aA bJ w'/\w'.cell? ⟨A,7,none⟩=some (.slice ma aP aN)/\w'.frozen? ⟨A,7,none⟩=false/\bI i y c l r (w'.setCell ⟨A,7,none⟩ (.slice bc be bd))))))(ce:Hid (∀i y c l r aU W m,bI i y c l r aU->ai aU W->aU.heap.size<=m->W.heap[m]?=some (.cells #[.slice (some ⟨l,0,none⟩) 4 r,ab self,ab next,.slice none 0 0,.slice none 0 0,.slice none 0 0,.bool false] 155)->ak 72 #[.pointer (some ⟨A,0,none⟩),Ou c,.pointer (some ⟨m,0,none⟩)] W λe w'=>∃f,e=.returned (ab f)/\Hid (bk (λb=>aA b\/b=m\/b=l) W w'/\(f=0\/f=1->∃v0 v1 v2 cY sa sl sc pa pl pc ka kl kc,w'.heap[m]?=some (.cells #[v0,v1,v2,.slice sa sl sc,.slice pa pl pc,.slice ka kl kc,cY] 155)/\T i y c f sa sl sc pa pl pc ka kl kc w')/\(¬(f=0\/f=1)->T i y c f none 0 0 none 0 0 none 0 0 w')))):ak 43 #[.pointer (some ⟨A,0,none⟩),.slice bR L bT,ab self,ab next] w (OL aJ rng cx T w):=by
 have cq:Hid (∃bf aQ bw,(bf=w.alloc bw/\aQ=w.heap.size/\bw=.cells #[ab 0,ab 0,ae ⟨#[]⟩,.slice none 0 0,ab 0,.slice none 0 0,.slice none 0 0,.slice none 0 0] 112)/\ai w bf/\bf.heap[aQ]?=some bw/\w.heap.size<bf.heap.size/\Hid (aQ=w.heap.size)):=⟨_,_,_,⟨rfl,rfl,rfl⟩,(am _ _).alloc (aj _) _,az _ _,by simp,rfl⟩;go_enter Tryz.func43,Tryz.ntmps43;go_upto_region 1 with fail;obtain⟨bf,j,bw,⟨bQ,cO,cN⟩,cK,bP,cM,ad⟩:=cq.out;rw[cN]at bQ bP;rw[<-bQ,<-cO];have bj:=ao cK;have bC:=ao bP;have cg:=ao cM;clear bQ cO cN cK bP cM cq;go_wp2_with fail;refine(co.out _ bj.out).mono ?_;rintro e b5 ⟨y0,y1,y2,ya,yl,yc,rfl,bh⟩;have bz:=ao (bj.out.trans (bh.out.mono bj.out.size));have bD:Hid (b5.heap[j]?=_):=(bh.out.block j (aC.1 bC.out).1).trans bC.out;have ch:=ao (aL cg.out bh.out.size);clear bh bC bj cg co;have ct:Hid (∃V,V=b5.alloc (.cells #[ab y0,ab y1,ae y2,.slice ya yl yc] 30)/\ai b5 V):=⟨_,rfl,(am _ _).alloc (aj _) _⟩;go_upto_region 2 with fail;obtain⟨V,cU,bv⟩:=ct.out;rw[<-cU];have Z:=ao (bz.out.trans (bv.mono bz.out.size));have d:Hid (V.heap[j]?=_):=(bv.block j (aC.1 bD.out).1).trans bD.out;have ci:=ao (aL ch.out bv.size);clear cU bv ct bD bz ch;by_cases bs:aJ=0;rotate_left
 ·have c4:=ao bs;have E:=af d.out 0;have F:=af d.out 1;have G:=af d.out 2;have H:=af d.out 3;have I:=af d.out 4;have J:=af d.out 5;have M:=af d.out 6;have N:=af d.out 7;simp only[cI,cV]at E F G H I J M N;have aR:∀g,V.frozen? ⟨j,g,none⟩=false:=λg=>by simp[World.frozen?,d.out]
  go_wp2_with fail;rw[Bb];refine ar (v:=.tuple #[LH,ab aJ]) (results_cell_tmp Tryz.results43 rfl (gw _ rfl (dj d.out)) rfl) rfl ?_;exact ag ⟨aJ,rfl,jT _ Z.out ad.out,ag ⟨rfl,c4.out⟩⟩
 ·have cc:=ao λW=>cb.out W bs;have ca:=ao λW=>b9.out W bs;clear cb b9;subst bs;cases hr:rng
  ·rw[hr]at aV;have c9:=ao aV.out;clear aV;by_cases dn:self<1
   ·have E:=af d.out 0;have F:=af d.out 1;have G:=af d.out 2;have H:=af d.out 3;have I:=af d.out 4;have J:=af d.out 5;have M:=af d.out 6;have N:=af d.out 7;simp only[cI,cV]at E F G H I J M N;have aR:∀g,V.frozen? ⟨j,g,none⟩=false:=λg=>by simp[World.frozen?,d.out]
    go_wp2_with fail;rw[Bb];refine ar (v:=.tuple #[LH,ab 1]) (results_cell_tmp Tryz.results43 rfl (gw _ rfl (dj d.out)) rfl) rfl ?_;exact ag ⟨1,rfl,jT _ Z.out ad.out,ah (ag ⟨rfl,rfl,by first|rfl|exact hr⟩)⟩
   ·by_cases dp:99<self
    ·have E:=af d.out 0;have F:=af d.out 1;have G:=af d.out 2;have H:=af d.out 3;have I:=af d.out 4;have J:=af d.out 5;have M:=af d.out 6;have N:=af d.out 7;simp only[cI,cV]at E F G H I J M N;have aR:∀g,V.frozen? ⟨j,g,none⟩=false:=λg=>by simp[World.frozen?,d.out]
     go_wp2_with fail;rw[Bb];refine ar (v:=.tuple #[LH,ab 1]) (results_cell_tmp Tryz.results43 rfl (gw _ rfl (dj d.out)) rfl) rfl ?_;exact ag ⟨1,rfl,jT _ Z.out ad.out,ah (ag ⟨rfl,rfl,by first|rfl|exact hr⟩)⟩
    ·by_cases dq:next<1
     ·have E:=af d.out 0;have F:=af d.out 1;have G:=af d.out 2;have H:=af d.out 3;have I:=af d.out 4;have J:=af d.out 5;have M:=af d.out 6;have N:=af d.out 7;simp only[cI,cV]at E F G H I J M N;have aR:∀g,V.frozen? ⟨j,g,none⟩=false:=λg=>by simp[World.frozen?,d.out]
      go_wp2_with fail;rw[Bb];refine ar (v:=.tuple #[LH,ab 1]) (results_cell_tmp Tryz.results43 rfl (gw _ rfl (dj d.out)) rfl) rfl ?_;exact ag ⟨1,rfl,jT _ Z.out ad.out,ah (ag ⟨rfl,rfl,by first|rfl|exact hr⟩)⟩
     ·by_cases dr:92<next
      ·have E:=af d.out 0;have F:=af d.out 1;have G:=af d.out 2;have H:=af d.out 3;have I:=af d.out 4;have J:=af d.out 5;have M:=af d.out 6;have N:=af d.out 7;simp only[cI,cV]at E F G H I J M N;have aR:∀g,V.frozen? ⟨j,g,none⟩=false:=λg=>by simp[World.frozen?,d.out]
       go_wp2_with fail;rw[Bb];refine ar (v:=.tuple #[LH,ab 1]) (results_cell_tmp Tryz.results43 rfl (gw _ rfl (dj d.out)) rfl) rfl ?_;exact ag ⟨1,rfl,jT _ Z.out ad.out,ah (ag ⟨rfl,rfl,by first|rfl|exact hr⟩)⟩
      ·exfalso;have k:=c9.out;have bK:1<=self:=by omega
       have bL:self<=99:=by omega
       have bM:1<=next:=by omega
       have bN:next<=92:=by omega
       simp[bK,bL,bM,bN]at k
  ·rw[hr]at aV;have da:=ao aV.out;have ⟨bK,bL,bM,bN⟩:1<=self/\self<=99/\1<=next/\next<=92:=by
    have k:=da.out;simp only[Bool.true_eq,aB,bX]at k;exact⟨k.1.1.1,k.1.1.2,k.1.2,k.2⟩
   have dn:¬self<1:=by omega
   have dp:¬99<self:=by omega
   have dq:¬next<1:=by omega
   have dr:¬92<next:=by omega
   have dl:V.cell? ⟨A,0,none⟩=some (ae name):=(Z.out.cell (p:=⟨A,0,none⟩) dm).trans c7.out;have c2:=ao λW=>ca.out W hr;clear bK bL bM bN aV ca;go_wp2_with fail;refine(cc.out V Z.out).mono ?_;rintro e dF ⟨rfl,bi⟩;have aZ:=ao (Z.out.trans (bi.out.mono Z.out.size));have bp:=ao ((bi.out.block j (aC.1 d.out).1).trans d.out);have c5:=ao (aL ci.out bi.out.size);clear bi cc d Z ci dl;go_wp2_with fail;refine(c2.out dF aZ.out).mono ?_;rintro e al (⟨rfl,Q⟩|⟨i,y,c,l,r,rfl,Q⟩)
   ·have aE:=ao (aZ.out.trans (Q.out.1.mono aZ.out.size));have aS:=ao ((Q.out.1.block j (aC.1 bp.out).1).trans bp.out);have a2:Hid (∃B a,(B=al.alloc (.cells #[ab 0,ab 0,ab 0,ae ⟨#[]⟩,.slice none 0 0,ab 0,ab 0,ae ⟨#[]⟩,.slice none 0 0,ab 0,ab 0,ae ⟨#[]⟩,.slice none 0 0,.slice none 0 0,ab 0,ab 0,ae ⟨#[]⟩,.slice none 0 0,.slice none 0 0] 149)/\a=al.heap.size)/\Hid (ai al B/\B.heap[a]?=some (.cells #[ab 0,ab 0,ab 0,ae ⟨#[]⟩,.slice none 0 0,ab 0,ab 0,ae ⟨#[]⟩,.slice none 0 0,ab 0,ab 0,ae ⟨#[]⟩,.slice none 0 0,.slice none 0 0,ab 0,ab 0,ae ⟨#[]⟩,.slice none 0 0,.slice none 0 0] 149)/\al.heap.size<=a)):=⟨_,_,⟨rfl,rfl⟩,(am _ _).alloc (aj _) _,az _ _,aj _⟩;dsimp only
    iterate 13 go_step
    obtain⟨B,a,⟨ba,a8⟩,C⟩:=a2.out;rw[<-ba,<-a8];clear ba a8;have aT:Hid (B.there a 0 19):=dj C.out.2.1;have aI:=ao (aC.1 aS.out).1;have a3:Hid (∃x,x=B.setCells a 0 EW.toArray.toList/\Hid (bk (λaQ=>aQ=a) B x)):=⟨_,rfl,(dV a _ 0 B).1⟩;refine wpList_store_mid rfl 149 (.tmp 12) (.tmp 49) rfl a 0 EW.toArray rfl rfl aT.out io DP ?_;obtain⟨x,bb,ap⟩:=a3.out;rw[<-bb];clear bb aT a3 a2;have c0:=ao ((aE.out.trans (C.out.1.mono aE.out.size)).trans (ap.out.below (by have:=aE.out.size;have:=C.out.1.size;omega) λb a6 e=>by have:=aE.out.size;have:=C.out.2.2;omega));have aa:=ao ((ap.out.block j (aL aI.out C.out.1.size) (λe=>by have:=aI.out;have:=C.out.2.2;omega)).trans ((C.out.1.block j aI.out).trans aS.out));have c6:=ao Q.out.2;clear ap aS aE Q C;have E:=af aa.out 0;have F:=af aa.out 1;have G:=af aa.out 2;have H:=af aa.out 3;have I:=af aa.out 4;have J:=af aa.out 5;have M:=af aa.out 6;have N:=af aa.out 7;simp only[cI,cV]at E F G H I J M N;have aR:∀g,x.frozen? ⟨j,g,none⟩=false:=λg=>by simp[World.frozen?,aa.out]
    go_wp2_with fail;rw[Bb];refine ar (v:=.tuple #[LH,ab 4]) (results_cell_tmp Tryz.results43 rfl (gw _ rfl (dj aa.out)) rfl) rfl ?_;exact ag ⟨4,rfl,jT _ c0.out ad.out,ah (ah ⟨rfl,rfl,hr,c6.out⟩)⟩
   ·have aE:=ao (aZ.out.trans (Q.out.1.mono aZ.out.size));have aS:=ao ((Q.out.1.block j (aC.1 bp.out).1).trans bp.out);have a2:Hid (∃B a,(B=al.alloc (.cells #[ab 0,ab 0,ab 0,ae ⟨#[]⟩,.slice none 0 0,ab 0,ab 0,ae ⟨#[]⟩,.slice none 0 0,ab 0,ab 0,ae ⟨#[]⟩,.slice none 0 0,.slice none 0 0,ab 0,ab 0,ae ⟨#[]⟩,.slice none 0 0,.slice none 0 0] 149)/\a=al.heap.size)/\Hid (ai al B/\B.heap[a]?=some (.cells #[ab 0,ab 0,ab 0,ae ⟨#[]⟩,.slice none 0 0,ab 0,ab 0,ae ⟨#[]⟩,.slice none 0 0,ab 0,ab 0,ae ⟨#[]⟩,.slice none 0 0,.slice none 0 0,ab 0,ab 0,ae ⟨#[]⟩,.slice none 0 0,.slice none 0 0] 149)/\al.heap.size<=a)):=⟨_,_,⟨rfl,rfl⟩,(am _ _).alloc (aj _) _,az _ _,aj _⟩;dsimp only
    iterate 13 go_step
    obtain⟨B,a,⟨ba,a8⟩,C⟩:=a2.out;rw[<-ba,<-a8];clear ba a8;have aT:Hid (B.there a 0 19):=dj C.out.2.1;have aI:=ao (aC.1 aS.out).1;have a3:Hid (∃x,x=B.setCells a 0 (B7 i y c (some ⟨l,0,none⟩) 4 r).toArray.toList/\Hid (x.rangeAt a 0 (B7 i y c (some ⟨l,0,none⟩) 4 r)/\bk (λaQ=>aQ=a) B x)):=⟨_,rfl,World.rangeAt_setCells_same B a 0 _ aT.out,(dV a _ 0 B).1⟩;refine wpList_store_mid rfl 149 (.tmp 12) (.tmp 49) rfl a 0 (B7 i y c (some ⟨l,0,none⟩) 4 r).toArray rfl rfl aT.out io (DQ i y c _ 4 r) ?_;obtain⟨x,bb,ap⟩:=a3.out;rw[<-bb];clear bb aT a3 a2;have bl:Hid (ai al x):=C.out.1.trans (ap.out.2.below C.out.1.size λb a6 e=>by have:=C.out.2.2;omega);have bm:Hid (∀W:World,x.heap[a]?=W.heap[a]? ->W.rangeAt a 0 (B7 i y c (some ⟨l,0,none⟩) 4 r)):=λW dh g v a7=>by
     have:=ap.out.1 g v a7;simp only[World.cell?,<-dh]at this ⊢;exact this
    have bF:=ao C.out.2.2;have a0:Hid (a<x.heap.size):=aL (aC.1 C.out.2.1).1 ap.out.2.size;have cZ:x.cell? ⟨a,0,none⟩=some (ab i):=ap.out.1 0 _ rfl;clear C ap;obtain⟨ma,aP,aN,⟨br,bO⟩,c3⟩:=cj.out i y c l r al x Q.out.2.2.2.2 bl.out;have c1:=ao (⟨Q.out.2.1,Q.out.2.2.1⟩:_/\_);have dQ:(i:Int)<=1000000:=by have:=Q.out.2.2.2.1;omega
    have dP:(0:Int)<=(i:Int):=by omega
    have dS:IntKind.i64.wrap ((i:Int)+1)=(i:Int)+1:=by
     rw[IntKind.wrap_i64];omega
    clear Q cj;go_upto_region 9 with fail;have b6:Hid (ai x x.drew):=(am _ _).drew;have R:x.drew.cell? ⟨A,7,none⟩=some (.slice ma aP aN)/\x.drew.cell? ⟨a,0,none⟩=some (ab i):=⟨br,cZ⟩;clear br cZ bO;refine wp_region_noPanic ?_;refine jd (λw'=>w'.cell? ⟨A,7,none⟩=some (.slice ma aP aN)/\w'.cell? ⟨a,0,none⟩=some (ab i)) 13 (by kernel_rfl) ?_
    try simp only[e9]
    refine aO (i:=0) (v:= ?_) rfl (by kernel_rfl) (by kernel_rfl) (by kernel_rfl) (by kernel_rfl) (λ_ _ _ k=>k) rfl ?_ R ?_;rotate_left
    ·intro w' s
     try dsimp only at s
     go_simp
     try with_reducible rfl
    try simp only[Act.put]
    refine aO (i:=1) (v:= ?_) rfl (by kernel_rfl) (by kernel_rfl) (by kernel_rfl) (by kernel_rfl) (λ_ _ _ k=>k) rfl ?_ R ?_;rotate_left
    ·intro w' s
     try dsimp only at s
     go_simp
     try with_reducible rfl
    try simp only[Act.put]
    refine aO (i:=2) (v:= ?_) rfl (by kernel_rfl) (by kernel_rfl) (by kernel_rfl) (by kernel_rfl) (λ_ _ _ k=>k) rfl ?_ R ?_;rotate_left
    ·intro w' s
     try dsimp only at s
     go_simp
     try with_reducible rfl
    try simp only[Act.put]
    refine aO (i:=3) (v:= ?_) rfl (by kernel_rfl) (by kernel_rfl) (by kernel_rfl) (by kernel_rfl) (λ_ _ _ k=>k) rfl ?_ R ?_;rotate_left
    ·intro w' s
     try dsimp only at s
     go_simp
     try with_reducible rfl
    try simp only[Act.put]
    refine aO (i:=4) (v:= ?_) rfl (by kernel_rfl) (by kernel_rfl) (by kernel_rfl) (by kernel_rfl) (λ_ _ _ k=>k) rfl ?_ R ?_;rotate_left
    ·intro w' s
     try dsimp only at s
     go_simp
     try with_reducible rfl
    try simp only[Act.put]
    refine aO (i:=5) (v:= ?_) rfl (by kernel_rfl) (by kernel_rfl) (by kernel_rfl) (by kernel_rfl) (λ_ _ _ k=>k) rfl ?_ R ?_;rotate_left
    ·intro w' s
     try dsimp only at s
     go_simp
     try with_reducible rfl
    try simp only[Act.put]
    refine aO (i:=6) (v:= ?_) rfl (by kernel_rfl) (by kernel_rfl) (by kernel_rfl) (by kernel_rfl) (λ_ _ _ k=>k) rfl ?_ R ?_;rotate_left
    ·intro w' s
     try dsimp only at s
     go_simp
     try with_reducible rfl
    try simp only[Act.put]
    refine aO (i:=7) (v:= ?_) rfl (by kernel_rfl) (by kernel_rfl) (by kernel_rfl) (by kernel_rfl) (λ_ _ _ k=>k) rfl ?_ R ?_;rotate_left
    ·intro w' s
     try dsimp only at s
     go_simp
     try with_reducible rfl
    try simp only[Act.put]
    refine aO (i:=8) (v:= ?_) rfl (by kernel_rfl) (by kernel_rfl) (by kernel_rfl) (by kernel_rfl) (λ_ _ _ k=>k) rfl ?_ R ?_;rotate_left
    ·intro w' s
     try dsimp only at s
     go_simp
     try with_reducible rfl
    try simp only[Act.put]
    refine aO (i:=9) (v:= ?_) rfl (by kernel_rfl) (by kernel_rfl) (by kernel_rfl) (by kernel_rfl) (λ_ _ _ k=>k) rfl ?_ R ?_;rotate_left
    ·intro w' s
     try dsimp only at s
     go_simp
     try with_reducible rfl
    try simp only[Act.put]
    refine cR (i:=10) (by kernel_rfl) rfl rfl (λK aF=>?_) (by decide)
    go_simp
    refine(c3.out _ b6.out).mono ?_;rintro e bg ⟨bc,be,bd,rfl,aW⟩;have bB:Hid (bk aA x bg):=(aD b6.out aA).trans aW.out.1 λ_ _ e=>e;have a5:bg.cell? ⟨A,7,none⟩=some (.slice ma aP aN)/\bg.cell? ⟨a,0,none⟩=some (ab i):=⟨aW.out.2.1,(bB.out.cell 0 a0.out (λe=>by have:=cl.out a e;have:=aE.out.size;have:=bF.out;omega)).trans R.2⟩;have bO:=aW.out.2.2.1;have ck:=ao aW.out.2.2.2;have cf:Hid (bk aA x (bg.setCell ⟨A,7,none⟩ (.slice bc be bd))):=bB.out.trans (bt _ _ _ _) λb _ e=>by rw[e];exact c8.out
    refine aF.out _ _ (λ_=>a5) (λ_=>?_);clear aF K aW R
    try simp only[Act.put,bS,dd,dc]
    refine cR (i:=11) (by kernel_rfl) rfl rfl (λK aF=>?_) (by decide)
    go_simp
    refine aF.out _ _ (λ_=>a5) (λ_=>?_);clear aF K
    try simp only[Act.put,bS,dd,dc]
    refine aO (i:=12) (v:= ?_) rfl (by kernel_rfl) (by kernel_rfl) (by kernel_rfl) (by kernel_rfl) (λ_ _ _ k=>k) rfl ?_ a5 ?_;rotate_left
    ·intro w' s
     try dsimp only at s
     go_simp
     try with_reducible rfl
    try simp only[Act.put,bS]
    have br:=a5.1;refine jc (by kernel_rfl) rfl rfl (by kernel_rfl) (λK aF=>?_)
    go_simp
    refine aF.out _ _ (NoPanic.normal ?_);clear aF K br bO a5
    try simp only[Act.put,bS,dd,dc]
    have cs:Hid (∃X,X=bg.setCell ⟨A,7,none⟩ (.slice bc be bd)/\Hid (bI i y c l r X/\bk aA x X)):=⟨_,rfl,ck.out,cf.out⟩;obtain⟨X,cW,aX⟩:=cs.out;rw[<-cW];clear cW cs ck bB cf;have bG:=ao aX.out.2.size;have bn:Hid (∀b,w.heap.size<=b->¬aA b):=λb a6 e=>by have:=cl.out b e;omega
    have cr:=ao aE.out.size;have bE:=ao ((aX.out.2.block j (aL aI.out bl.out.size) (bn.out j (by rw[ad.out];exact aj _))).trans ((bl.out.block j aI.out).trans aS.out));have bq:=ao (aX.out.2.block a a0.out (bn.out a (by have:=bF.out;have:=cr.out;omega)));have b7:=ao (bm.out X bq.out.symm);have dG:X.cell? ⟨a,18,none⟩=some (.slice (some ⟨l,0,none⟩) 4 r):=b7.out 18 _ rfl;have cu:Hid (∃u m,(u=X.alloc (.cells #[.slice (some ⟨l,0,none⟩) 4 r,ab self,ab next,.slice none 0 0,.slice none 0 0,.slice none 0 0,.bool false] 155)/\m=X.heap.size)/\Hid (ai X u/\u.heap[m]?=some (.cells #[.slice (some ⟨l,0,none⟩) 4 r,ab self,ab next,.slice none 0 0,.slice none 0 0,.slice none 0 0,.bool false] 155)/\X.heap.size<=m)):=⟨_,_,⟨rfl,rfl⟩,(am _ _).alloc (aj _) _,az _ _,aj _⟩;go_upto_region 11 with fail;obtain⟨u,m,⟨cX,aK⟩,an⟩:=cu.out;rw[<-cX,<-aK];clear cX aK cu dG;have O:=ao (bm.out u (((an.out.1.block a (aL a0.out bG.out)).trans bq.out).symm));have ds:u.cell? ⟨a,5,none⟩=some (ab c.1.1.1.1):=O.out 5 _ rfl;have dt:u.cell? ⟨a,6,none⟩=some (ab c.1.1.1.2.1):=O.out 6 _ rfl;have dx:u.cell? ⟨a,7,none⟩=some (ae c.1.1.1.2.2):=O.out 7 _ rfl;have dy:u.cell? ⟨a,8,none⟩=some (.slice c.1.1.2.1.1 c.1.1.2.2.length c.1.1.2.1.2):=O.out 8 _ rfl;have dz:u.cell? ⟨a,9,none⟩=some (ab c.1.2.1.1.1):=O.out 9 _ rfl;have dA:u.cell? ⟨a,10,none⟩=some (ab c.1.2.1.1.2.1):=O.out 10 _ rfl;have dB:u.cell? ⟨a,11,none⟩=some (ae c.1.2.1.1.2.2):=O.out 11 _ rfl;have dC:u.cell? ⟨a,12,none⟩=some (.slice c.1.2.1.2.1.1 c.1.2.1.2.2.length c.1.2.1.2.1.2):=O.out 12 _ rfl;have dD:u.cell? ⟨a,13,none⟩=some (.slice c.2.1.1 c.2.2.length c.2.1.2):=O.out 13 _ rfl;have dE:u.cell? ⟨a,14,none⟩=some (ab c.1.2.2.1.1):=O.out 14 _ rfl;have du:u.cell? ⟨a,15,none⟩=some (ab c.1.2.2.1.2.1):=O.out 15 _ rfl;have dv:u.cell? ⟨a,16,none⟩=some (ae c.1.2.2.1.2.2):=O.out 16 _ rfl;have dw:u.cell? ⟨a,17,none⟩=some (.slice c.1.2.2.2.1.1 c.1.2.2.2.2.length c.1.2.2.2.1.2):=O.out 17 _ rfl;have cd:=ao (ce.out i y c l r X u m aX.out.1 an.out.1 an.out.2.2 an.out.2.1);go_wp2_with fail;refine cd.out.mono ?_;rintro e aG ⟨f,rfl,aY⟩;clear ds dt dx dy dz dA dB dC dD dE du dv dw cd;have de:=ao aY.out.1.size;have db:=ao an.out.1.size;have aq:Hid (j≠m/\j≠l/\a≠m/\a≠l/\j<u.heap.size/\a<u.heap.size/\w.heap.size<=j/\w.heap.size<=a):=by
     have cH:=ad.out;have cJ:=c5.out;have dg:=c1.out;have dJ:=bF.out;have dK:=a0.out;have dL:=bG.out;have dM:=an.out.2.2;have dN:=db.out;have dO:=aI.out;have dH:=bl.out.size;have dI:=cr.out;exact⟨by omega,by omega,by omega,by omega,by omega,by omega,by omega,by omega⟩
    have cm:=ao ((aY.out.1.block j aq.out.2.2.2.2.1 (λe=>by
     rcases e with e|e|e
     ·exact bn.out j aq.out.2.2.2.2.2.2.1 e
     ·exact aq.out.1 e
     ·exact aq.out.2.1 e)).trans ((an.out.1.block j (aC.1 bE.out).1).trans bE.out))
    have b8:=ao (bm.out aG (((aY.out.1.block a aq.out.2.2.2.2.2.1 (λe=>by
     rcases e with e|e|e
     ·exact bn.out a aq.out.2.2.2.2.2.2.2 e
     ·exact aq.out.2.2.1 e
     ·exact aq.out.2.2.2.1 e)).trans ((an.out.1.block a (aL a0.out bG.out)).trans bq.out)).symm))
    have cp:=ao aY.out.2;clear aY O b7 bE bq aX an bm ce;have cv:Hid (∃t h,(t=aG.alloc (.cells #[ab 0,ab 0,ae ⟨#[]⟩,.slice none 0 0,ab f,.slice none 0 0,.slice none 0 0,.slice none 0 0] 112)/\h=aG.heap.size)/\Hid (ai aG t/\t.heap[h]?=some (.cells #[ab 0,ab 0,ae ⟨#[]⟩,.slice none 0 0,ab f,.slice none 0 0,.slice none 0 0,.slice none 0 0] 112)/\aG.heap.size<=h)):=⟨_,_,⟨rfl,rfl⟩,(am _ _).alloc (aj _) _,az _ _,aj _⟩;go_upto_region 12 with fail;obtain⟨t,h,⟨cS,cP⟩,z⟩:=cv.out;rw[<-cS,<-cP];clear cS cP cv;have bx:t.cell? ⟨h,4,none⟩=some (ab f):=af z.out.2.1 4;have bo:=ao ((z.out.1.block j (aC.1 cm.out).1).trans cm.out);have aH:Hid (j≠h/\a≠h/\a<aG.heap.size):=by
     have cH:=aq.out;have cJ:=de.out;have dg:=z.out.2.2;exact⟨by omega,by omega,by omega⟩
    by_cases aM:f=0\/f=1
    ·by_cases bu:f=0
     case' pos=>have cL:(f==0)=true:=bV.2 bu
     case' neg=>
      have cL:(f==0)=false:=gi.2 bu;have di:(f==1)=true:=bV.2 (aM.resolve_left bu)
     all_goals
      have a1:=ao bo.out;have P:=ao z.out.2.1;obtain⟨v0,v1,v2,cY,sa,sl,sc,pa,pl,pc,ka,kl,kc,aK,cQ⟩:=cp.out.1 aM;have bH:=ao cQ;have bA:=ao ((z.out.1.block m (aC.1 aK).1).trans aK);have dk:m≠h:=by
       have cH:=(aC.1 aK).1;have cJ:=z.out.2.2;omega
      have dR:h≠m:=λe=>dk e.symm;clear aK cQ bo aM bu;have cB:t.cell? ⟨m,3,none⟩=some (.slice sa sl sc):=af bA.out 3;have cC:t.cell? ⟨m,4,none⟩=some (.slice pa pl pc):=af bA.out 4;have cD:t.cell? ⟨m,5,none⟩=some (.slice ka kl kc):=af bA.out 5;have cE:=af P.out 5;have cF:=af P.out 6;have cG:=af P.out 7;simp only[cI,cV]at cE cF cG;have df:∀g,t.frozen? ⟨h,g,none⟩=false:=λg=>by simp[World.frozen?,P.out]
      go_upto_region 13 with fail;go_region_held3 (λW=>W.cell? ⟨m,3,none⟩=some (.slice sa sl sc)/\W.cell? ⟨m,4,none⟩=some (.slice pa pl pc)/\W.cell? ⟨m,5,none⟩=some (.slice ka kl kc)) (first|(go_keep;done)|exact⟨cB,cC,cD⟩) ((fail));have cw:Hid (∃S,S=((t.setCell ⟨h,5,none⟩ (.slice sa sl sc)).setCell ⟨h,6,none⟩ (.slice pa pl pc)).setCell ⟨h,7,none⟩ (.slice ka kl kc)/\Hid (bk (λb=>b=h) t S/\S.heap[h]?=some (.cells #[ab 0,ab 0,ae ⟨#[]⟩,.slice none 0 0,ab f,.slice sa sl sc,.slice pa pl pc,.slice ka kl kc] 112))):=⟨_,rfl,bk.trans (bk.trans (bt t h 5 _) (bt _ h 6 _) λ_ _ e=>e) (bt _ h 7 _) λ_ _ e=>e,Gi P.out _ _ _⟩;obtain⟨S,cT,Y⟩:=cw.out;rw[<-cT];clear cT cw cB cC cD cE cF cG df bx;have cn:=ao ((Y.out.1.block j (aC.1 a1.out).1 aH.out.1).trans a1.out);go_upto_region 14 with fail;have U:=ao (λ(g:Nat)(v:Value)(a7:(B7 i y c (some ⟨l,0,none⟩) 4 r)[g]?=some v)=>(Y.out.1.cell (0+g) (aL aH.out.2.2 z.out.1.size) aH.out.2.1).trans ((z.out.1.cell (p:=⟨a,0+g,none⟩) aH.out.2.2).trans (b8.out g v a7)));have bU:S.cell? ⟨a,1,none⟩=some (ab y.1.1):=U.out 1 _ rfl;have bW:S.cell? ⟨a,2,none⟩=some (ab y.1.2.1):=U.out 2 _ rfl;have bY:S.cell? ⟨a,3,none⟩=some (ae y.1.2.2):=U.out 3 _ rfl;have bZ:S.cell? ⟨a,4,none⟩=some (.slice y.2.1.1 y.2.2.length y.2.1.2):=U.out 4 _ rfl;have au:=af Y.out.2 0;have av:=af Y.out.2 1;have aw:=af Y.out.2 2;have ay:=af Y.out.2 3;simp only[cI,cV]at au av aw ay;have b4:∀g,S.frozen? ⟨h,g,none⟩=false:=λg=>by simp[World.frozen?,Y.out.2]
      have a4:Hid (∃D,D=(((S.setCell ⟨h,0,none⟩ (ab y.1.1)).setCell ⟨h,1,none⟩ (ab y.1.2.1)).setCell ⟨h,2,none⟩ (ae y.1.2.2)).setCell ⟨h,3,none⟩ (.slice y.2.1.1 y.2.2.length y.2.1.2)/\Hid (bk (λb=>b=h) S D/\D.heap[h]?=some (.cells #[ab y.1.1,ab y.1.2.1,ae y.1.2.2,.slice y.2.1.1 y.2.2.length y.2.1.2,ab f,.slice sa sl sc,.slice pa pl pc,.slice ka kl kc] 112))):=⟨_,rfl,nB S h 0 _ _ _ _,Er Y.out.2 _ _ _ _⟩;go_upto_region 15 with fail;obtain⟨D,a9,o⟩:=a4.out;rw[<-a9];clear a9 a4 bU bW bY bZ au av aw ay b4 U;have q:=ao ((o.out.1.block j (aC.1 cn.out).1 aH.out.1).trans cn.out);have au:=af o.out.2 0;have av:=af o.out.2 1;have aw:=af o.out.2 2;have ay:=af o.out.2 3;have b0:=af o.out.2 4;have b1:=af o.out.2 5;have b2:=af o.out.2 6;have b3:=af o.out.2 7;have E:=af q.out 0;have F:=af q.out 1;have G:=af q.out 2;have H:=af q.out 3;have I:=af q.out 4;have J:=af q.out 5;have M:=af q.out 6;have N:=af q.out 7;simp only[cI,cV]at au av aw ay b0 b1 b2 b3 E F G H I J M N;have aR:∀g,D.frozen? ⟨j,g,none⟩=false:=λg=>by simp[World.frozen?,q.out]
      go_wp2_with fail;rw[Bb];refine ar (v:=.tuple #[Nu y.1.1 y.1.2.1 y.1.2.2 y.2.1.1 y.2.2.length y.2.1.2 f sa sl sc pa pl pc ka kl kc,ab 0]) (results_cell_tmp Tryz.results43 rfl (Ax _ rfl (dj q.out)) rfl) rfl ?_;refine ah ⟨i,y,c,f,sa,sl,sc,pa,pl,pc,ka,kl,kc,rfl,rfl,by first|rfl|exact hr,aG,D,bH.out,((z.out.1.trans (Y.out.1.below z.out.1.size λb a6 e=>by have:=z.out.2.2;omega)).trans (o.out.1.below (ax z.out.1.size Y.out.1.size) λb a6 e=>by have:=z.out.2.2;omega)),?_⟩;rw[<-ad.out];exact(dV j _ 0 D).1.trans (aD ((am _ _).drew) _) λ_ _ e=>e
    ·have bH:=ao (cp.out.2 aM);have cL:(f==0)=false:=gi.2 λe=>aM (ag e);have di:(f==1)=false:=gi.2 λe=>aM (ah e);have a1:=ao bo.out;have P:=ao z.out.2.1;clear aM bx bo;have bx:t.cell? ⟨h,4,none⟩=some (ab f):=af P.out 4;go_upto_region 14 with fail;clear bx;have U:=ao (λg v a7=>(z.out.1.cell (p:=⟨a,0+g,none⟩) aH.out.2.2).trans (b8.out g v a7));have bU:t.cell? ⟨a,1,none⟩=some (ab y.1.1):=U.out 1 _ rfl;have bW:t.cell? ⟨a,2,none⟩=some (ab y.1.2.1):=U.out 2 _ rfl;have bY:t.cell? ⟨a,3,none⟩=some (ae y.1.2.2):=U.out 3 _ rfl;have bZ:t.cell? ⟨a,4,none⟩=some (.slice y.2.1.1 y.2.2.length y.2.1.2):=U.out 4 _ rfl;have au:=af P.out 0;have av:=af P.out 1;have aw:=af P.out 2;have ay:=af P.out 3;simp only[cI,cV]at au av aw ay;have b4:∀g,t.frozen? ⟨h,g,none⟩=false:=λg=>by simp[World.frozen?,P.out]
     have a4:Hid (∃D,D=(((t.setCell ⟨h,0,none⟩ (ab y.1.1)).setCell ⟨h,1,none⟩ (ab y.1.2.1)).setCell ⟨h,2,none⟩ (ae y.1.2.2)).setCell ⟨h,3,none⟩ (.slice y.2.1.1 y.2.2.length y.2.1.2)/\Hid (bk (λb=>b=h) t D/\D.heap[h]?=some (.cells #[ab y.1.1,ab y.1.2.1,ae y.1.2.2,.slice y.2.1.1 y.2.2.length y.2.1.2,ab f,.slice none 0 0,.slice none 0 0,.slice none 0 0] 112))):=⟨_,rfl,nB t h 0 _ _ _ _,Er P.out _ _ _ _⟩;go_upto_region 15 with fail;obtain⟨D,a9,o⟩:=a4.out;rw[<-a9];clear a9 a4 bU bW bY bZ au av aw ay b4 U;have q:=ao ((o.out.1.block j (aC.1 a1.out).1 aH.out.1).trans a1.out);have au:=af o.out.2 0;have av:=af o.out.2 1;have aw:=af o.out.2 2;have ay:=af o.out.2 3;have b0:=af o.out.2 4;have b1:=af o.out.2 5;have b2:=af o.out.2 6;have b3:=af o.out.2 7;have E:=af q.out 0;have F:=af q.out 1;have G:=af q.out 2;have H:=af q.out 3;have I:=af q.out 4;have J:=af q.out 5;have M:=af q.out 6;have N:=af q.out 7;simp only[cI,cV]at au av aw ay b0 b1 b2 b3 E F G H I J M N;have aR:∀g,D.frozen? ⟨j,g,none⟩=false:=λg=>by simp[World.frozen?,q.out]
     go_wp2_with fail;rw[Bb];refine ar (v:=.tuple #[Nu y.1.1 y.1.2.1 y.1.2.2 y.2.1.1 y.2.2.length y.2.1.2 f none 0 0 none 0 0 none 0 0,ab 0]) (results_cell_tmp Tryz.results43 rfl (gw _ rfl (dj q.out)) rfl) rfl ?_;refine ah ⟨i,y,c,f,none,0,0,none,0,0,none,0,0,rfl,rfl,by first|rfl|exact hr,aG,D,bH.out,(z.out.1.trans (o.out.1.below z.out.1.size λb a6 e=>by have:=z.out.2.2;omega)),?_⟩;rw[<-ad.out];exact(dV j _ 0 D).1
end Go.Proofs.YtckamaoibonjcaaGreat
