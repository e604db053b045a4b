/- What is proved here: the walk of proc's Step, over what its calls leave. No condition but that all lies in memory. -/
import Derived.Test.YtmmahddlcldmiaaGreatJ22
namespace Go.Proofs.YtmmahddlcldmiaaGreat
open Go.RowKit Tryz
set_option maxRecDepth 100000
set_option maxHeartbeats 8000000
def OU(y0 y1:Int)(y2:ap)(ya:aw)(yl yc:Nat)(f:Int)(sa:aw)(sl sc:Nat)(pa:aw)(pl pc:Nat)(ka:aw)(kl kc:Nat):av:=.agg #[ab y0,ab y1,af y2,ae ya yl yc,ab f,ae sa sl sc,ae pa pl pc,ae ka kl kc]
def M6:av:=.agg #[ab 0,ab 0,af ⟨#[]⟩,ae none 0 0,ab 0,ae none 0 0,ae none 0 0,ae none 0 0]
def Qb{n:Nat}(d:Int)(rng:Bool)(j:Prop)(T:Nat->Tc->Cl (n+1)->Int->aw->Nat->Nat->aw->Nat->Nat->aw->Nat->Nat->ag->Prop)(w:ag)(e:Ending)(w':ag):Prop:=
 (∃g,e=.returned (.tuple #[M6,ab g])/\Hid (ak w w'/\((g=d/\d≠0)\/(g=1/\d=0/\rng=false)\/(g=4/\d=0/\rng=true/\j))))\/
  ∃(k:Nat)(a:Tc)(c:Cl (n+1))(f:Int)(sa:aw)(sl sc:Nat)(pa:aw)(pl pc:Nat)(ka:aw)(kl kc:Nat),e=.returned (.tuple #[OU a.1.1 a.1.2.1 a.1.2.2 a.2.1.1 a.2.2.length a.2.1.2 f sa sl sc pa pl pc ka kl kc,ab 0])/\Hid (d=0/\rng=true/\∃h i,T k a c f sa sl sc pa pl pc ka kl kc h/\ak h i/\bB (λb=>b=w.heap.size) i w')
theorem Cf(w:ag)(q:Nat)(v0 v1 v2 v3 a b c d:av):(((((((w.setCell ⟨q,0,none⟩ v0).setCell ⟨q,1,none⟩ v1).setCell ⟨q,2,none⟩ v2).setCell ⟨q,3,none⟩ v3).setCell ⟨q,4,none⟩ a).setCell ⟨q,5,none⟩ b).setCell ⟨q,6,none⟩ c).setCell ⟨q,7,none⟩ d=w.setCells q 0 [v0,v1,v2,v3,a,b,c,d]:=rfl
variable{q:Nat}{t:TypeId}{W w:ag}{a b c d:av}
theorem Fy{e f g h:av}(i:w.heap[q]?=some (.cells #[a,b,c,d,e,f,g,h] t))(v0 v1 v2 v3:av):((((w.setCell ⟨q,0,none⟩ v0).setCell ⟨q,1,none⟩ v1).setCell ⟨q,2,none⟩ v2).setCell ⟨q,3,none⟩ v3).heap[q]?=some (.cells #[v0,v1,v2,v3,e,f,g,h] t):=by
 unfold World.setCell;simp[bO,i]
theorem Hq{v0 v1 v2 v3:av}(h:w.heap[q]?=some (.cells #[v0,v1,v2,v3,a,b,c,d] t))(e f g:av):(((w.setCell ⟨q,5,none⟩ e).setCell ⟨q,6,none⟩ f).setCell ⟨q,7,none⟩ g).heap[q]?=some (.cells #[v0,v1,v2,v3,a,e,f,g] t):=by
 unfold World.setCell;simp[bO,h]
theorem xx:(Tryz.prog.info? 117).map (·.size)=some 8:=by kernel_rfl
theorem gO(vs:List av)(a:vs.length=8)(b:W.there q 0 8):(loadVar 117 ⟨q,0,none⟩).run Tryz.prog (W.setCells q 0 vs)=.ok (.agg vs.toArray) (W.setCells q 0 vs):=
 run_loadVar_mid (P:=Tryz.prog) (W.setCells q 0 vs) q 0 117 vs _ (World.rangeAt_setCells_same W q 0 vs (by rw[a];exact b)) underlying117 rfl (by rw[a];exact xx)
theorem Bv(vs:List av)(a:vs.length=8)(b:W.there q 0 8):(loadVar 117 ⟨q,0,none⟩).run Tryz.prog (W.setCells q 0 vs).drew=.ok (.agg vs.toArray) (W.setCells q 0 vs).drew:=
 run_loadVar_mid (P:=Tryz.prog) (W.setCells q 0 vs).drew q 0 117 vs _ ((World.rangeAt_drew _ _ _ _).2 (World.rangeAt_setCells_same W q 0 vs (by rw[a];exact b))) underlying117 rfl (by rw[a];exact xx)
theorem kJ(vs:List av)(a:ak w W)(d:q=w.heap.size):ak w (W.setCells q 0 vs):=a.trans ((eF q vs 0 W).1.below a.size λb c e=>by omega)
theorem Ib{n:Nat}(A:Nat)(name:ap)(bY:aw)(L bZ:Nat)(self next:Int)(aP:Int)(cG:aw)(cE cH:Nat)(w:ag)(cD:Prop)(K bP:Nat->Tc->Cl (n+1)->Nat->Nat->ag->Prop)(T:Nat->Tc->Cl (n+1)->Int->aw->Nat->Nat->aw->Nat->Nat->aw->Nat->Nat->ag->Prop)(rng:Bool)(aE:aR)(dr:A<w.heap.size)(cr:Hid (∀b,aE b->b<w.heap.size))(dd:Hid (aE A))(a2:Hid (rng=(decide (1<=self) && decide (self<=99) && decide (1<=next) && decide (next<=92))))(cu:Hid (∀W,ak w W->am 37 #[ae bY L bZ] W λe w'=>∃y0 y1 y2 ya yl yc,e=.returned (.tuple #[.agg #[ab y0,ab y1,af y2,ae ya yl yc],ab aP])/\Hid (ak W w')))(dc:Hid (w.cell? ⟨A,0,none⟩=some (af name)))(cf:Hid (∀W,aP=0->ak w W->am 77 #[ae bY L bZ,af name] W λe w'=>e=.returned (ae cG cE cH)/\Hid (ak W w')))(cd:Hid (∀W,aP=0->rng=true->ak w W->am 76 #[aH A,ae cG cE cH] W λe w'=>(e=.returned (.tuple #[.agg F8.toArray,.bool false])/\Hid (ak W w'/\cD))\/∃(i:Nat)(y:Tc)(c:Cl (n+1))(l r:Nat),e=.returned (.tuple #[.agg (C6 i y c (some ⟨l,0,none⟩) 4 r).toArray,.bool true])/\Hid (ak W w'/\W.heap.size<=l/\l<w'.heap.size/\i<=1000000/\K i y c l r w')))(cp:Hid (∀i y c l r a1 W,K i y c l r a1->ak a1 W->∃ma aU aT,(W.cell? ⟨A,7,none⟩=some (ae ma aU aT)/\W.frozen? ⟨A,7,none⟩=false)/\Hid (∀bQ,ak W bQ->am 78 #[ae ma aU aT,ab i,ab ((i:Int)+1)] bQ λe w'=>∃bj bl bk,e=.returned (ae bj bl bk)/\Hid (bB aE bQ w'/\w'.cell? ⟨A,7,none⟩=some (ae ma aU aT)/\w'.frozen? ⟨A,7,none⟩=false/\bP i y c l r (w'.setCell ⟨A,7,none⟩ (ae bj bl bk))))))(cj:Hid (∀i y c l r a1 W m,bP i y c l r a1->ak a1 W->a1.heap.size<=m->W.heap[m]?=some (.cells #[ae (some ⟨l,0,none⟩) 4 r,ab self,ab next,ae none 0 0,ae none 0 0,ae none 0 0,.bool false] 170)->am 79 #[aH A,PS c,aH m] W λe w'=>∃f,e=.returned (ab f)/\Hid (bB (λb=>aE b\/b=m\/b=l) W w'/\(f=0\/f=1->∃v0 v1 v2 c3 sa sl sc pa pl pc ka kl kc,w'.heap[m]?=some (.cells #[v0,v1,v2,ae sa sl sc,ae pa pl pc,ae ka kl kc,c3] 170)/\T i y c f sa sl sc pa pl pc ka kl kc w')/\(¬(f=0\/f=1)->T i y c f none 0 0 none 0 0 none 0 0 w')))):am 45 #[aH A,ae bY L bZ,ab self,ab next] w (Qb aP rng cD T w):=by
 have cw:Hid (∃bm aV bD,(bm=w.alloc bD/\aV=w.heap.size/\bD=.cells #[ab 0,ab 0,af ⟨#[]⟩,ae none 0 0,ab 0,ae none 0 0,ae none 0 0,ae none 0 0] 117)/\ak w bm/\bm.heap[aV]?=some bD/\w.heap.size<bm.heap.size/\Hid (aV=w.heap.size)):=⟨_,_,_,⟨rfl,rfl,rfl⟩,(aq _ _).alloc (ao _) _,aF _ _,by simp,rfl⟩;go_enter func45,ntmps45;go_upto_region 1 with fail;obtain⟨bm,j,bD,⟨bX,cU,cT⟩,cQ,bW,cS,ad⟩:=cw.out;rw[cT]at bX bW;rw[<-bX,<-cU];have bq:=au cQ;have bJ:=au bW;have cl:=au cS;clear bX cU cT cQ bW cS cw;go_wp2_with fail;refine(cu _ bq).mono ?_;rintro e b9 ⟨y0,y1,y2,ya,yl,yc,rfl,bo⟩;have bF:=au (bq.trans (bo.mono bq.size));have bK:Hid (b9.heap[j]?=_):=(bo.block j (aJ.1 bJ).1).trans bJ;have cm:=au (aW cl bo.size);clear bo bJ bq cl cu;have cz:Hid (∃V,V=b9.alloc (.cells #[ab y0,ab y1,af y2,ae ya yl yc] 31)/\ak b9 V):=⟨_,rfl,(aq _ _).alloc (ao _) _⟩;go_upto_region 2 with fail;obtain⟨V,c0,bC⟩:=cz.out;rw[<-c0];have Z:=au (bF.trans (bC.mono bF.size));have d:Hid (V.heap[j]?=_):=(bC.block j (aJ.1 bK).1).trans bK;have cn:=au (aW cm bC.size);clear c0 bC cz bK bF cm;by_cases bz:aP=0;rotate_left
 ·have c9:=au bz;have E:=ah d 0;have F:=ah d 1;have G:=ah d 2;have H:=ah d 3;have I:=ah d 4;have J:=ah d 5;have M:=ah d 6;have N:=ah d 7;simp only[cW,dm]at E F G H I J M N;have aX:∀g,V.frozen? ⟨j,g,none⟩=false:=λg=>by simp[World.frozen?,d.out]
  go_wp2_with fail;rw[Cf];refine az (v:=.tuple #[M6,ab aP]) (results_cell_tmp results45 rfl (gO _ rfl (dD d)) rfl) rfl ?_;exact ai ⟨aP,rfl,kJ _ Z ad,ai ⟨rfl,c9⟩⟩
 ·have ch:=au λW=>cf W bz;have ce:=au λW=>cd W bz;clear cf cd;subst bz;cases hr:rng
  ·rw[hr]at a2;have de:=au a2.out;clear a2;by_cases ds:self<1
   ·have E:=ah d 0;have F:=ah d 1;have G:=ah d 2;have H:=ah d 3;have I:=ah d 4;have J:=ah d 5;have M:=ah d 6;have N:=ah d 7;simp only[cW,dm]at E F G H I J M N;have aX:∀g,V.frozen? ⟨j,g,none⟩=false:=λg=>by simp[World.frozen?,d.out]
    go_wp2_with fail;rw[Cf];refine az (v:=.tuple #[M6,ab 1]) (results_cell_tmp results45 rfl (gO _ rfl (dD d)) rfl) rfl ?_;exact ai ⟨1,rfl,kJ _ Z ad,aj (ai ⟨rfl,rfl,by first|rfl|exact hr⟩)⟩
   ·by_cases dv:99<self
    ·have E:=ah d 0;have F:=ah d 1;have G:=ah d 2;have H:=ah d 3;have I:=ah d 4;have J:=ah d 5;have M:=ah d 6;have N:=ah d 7;simp only[cW,dm]at E F G H I J M N;have aX:∀g,V.frozen? ⟨j,g,none⟩=false:=λg=>by simp[World.frozen?,d.out]
     go_wp2_with fail;rw[Cf];refine az (v:=.tuple #[M6,ab 1]) (results_cell_tmp results45 rfl (gO _ rfl (dD d)) rfl) rfl ?_;exact ai ⟨1,rfl,kJ _ Z ad,aj (ai ⟨rfl,rfl,by first|rfl|exact hr⟩)⟩
    ·by_cases dw:next<1
     ·have E:=ah d 0;have F:=ah d 1;have G:=ah d 2;have H:=ah d 3;have I:=ah d 4;have J:=ah d 5;have M:=ah d 6;have N:=ah d 7;simp only[cW,dm]at E F G H I J M N;have aX:∀g,V.frozen? ⟨j,g,none⟩=false:=λg=>by simp[World.frozen?,d.out]
      go_wp2_with fail;rw[Cf];refine az (v:=.tuple #[M6,ab 1]) (results_cell_tmp results45 rfl (gO _ rfl (dD d)) rfl) rfl ?_;exact ai ⟨1,rfl,kJ _ Z ad,aj (ai ⟨rfl,rfl,by first|rfl|exact hr⟩)⟩
     ·by_cases dx:92<next
      ·have E:=ah d 0;have F:=ah d 1;have G:=ah d 2;have H:=ah d 3;have I:=ah d 4;have J:=ah d 5;have M:=ah d 6;have N:=ah d 7;simp only[cW,dm]at E F G H I J M N;have aX:∀g,V.frozen? ⟨j,g,none⟩=false:=λg=>by simp[World.frozen?,d.out]
       go_wp2_with fail;rw[Cf];refine az (v:=.tuple #[M6,ab 1]) (results_cell_tmp results45 rfl (gO _ rfl (dD d)) rfl) rfl ?_;exact ai ⟨1,rfl,kJ _ Z ad,aj (ai ⟨rfl,rfl,by first|rfl|exact hr⟩)⟩
      ·exfalso;have k:=de.out;have bR:1<=self:=by omega
       have bS:self<=99:=by omega
       have bT:1<=next:=by omega
       have bU:next<=92:=by omega
       simp[bR,bS,bT,bU]at k
  ·rw[hr]at a2;have df:=au a2.out;have ⟨bR,bS,bT,bU⟩:1<=self/\self<=99/\1<=next/\next<=92:=by
    have k:=df.out;simp only[Bool.true_eq,aK,co]at k;exact⟨k.1.1.1,k.1.1.2,k.1.2,k.2⟩
   have ds:¬self<1:=by omega
   have dv:¬99<self:=by omega
   have dw:¬next<1:=by omega
   have dx:¬92<next:=by omega
   have dq:V.cell? ⟨A,0,none⟩=some (af name):=(Z.cell (p:=⟨A,0,none⟩) dr).trans dc;have c7:=au λW=>ce W hr;clear bR bS bT bU a2 ce;go_wp2_with fail;refine(ch V Z).mono ?_;rintro e dM ⟨rfl,bp⟩;have a6:=au (Z.trans (bp.mono Z.size));have bv:=au ((bp.block j (aJ.1 d).1).trans d);have da:=au (aW cn bp.size);clear bp ch d Z cn dq;go_wp2_with fail;refine(c7 dM a6).mono ?_;rintro e al (⟨rfl,Q⟩|⟨i,y,c,l,r,rfl,Q⟩)
   ·have aG:=au (a6.trans (Q.1.mono a6.size));have aY:=au ((Q.1.block j (aJ.1 bv).1).trans bv);have a9:Hid (∃B a,(B=al.alloc (.cells #[ab 0,ab 0,ab 0,af ⟨#[]⟩,ae none 0 0,ab 0,ab 0,af ⟨#[]⟩,ae none 0 0,ab 0,ab 0,af ⟨#[]⟩,ae none 0 0,ae none 0 0,ab 0,ab 0,af ⟨#[]⟩,ae none 0 0,ae none 0 0] 164)/\a=al.heap.size)/\Hid (ak al B/\B.heap[a]?=some (.cells #[ab 0,ab 0,ab 0,af ⟨#[]⟩,ae none 0 0,ab 0,ab 0,af ⟨#[]⟩,ae none 0 0,ab 0,ab 0,af ⟨#[]⟩,ae none 0 0,ae none 0 0,ab 0,ab 0,af ⟨#[]⟩,ae none 0 0,ae none 0 0] 164)/\al.heap.size<=a)):=⟨_,_,⟨rfl,rfl⟩,(aq _ _).alloc (ao _) _,aF _ _,ao _⟩;dsimp only
    iterate 13 go_step
    obtain⟨B,a,⟨bh,bf⟩,C⟩:=a9.out;rw[<-bh,<-bf];clear bh bf;have a0:Hid (B.there a 0 19):=dD C.2.1;have aN:=au (aJ.1 aY).1;have ba:Hid (∃x,x=B.setCells a 0 F8.toArray.toList/\Hid (bB (λaV=>aV=a) B x)):=⟨_,rfl,(eF a _ 0 B).1⟩;refine wpList_store_mid rfl 164 (.tmp 12) (.tmp 49) rfl a 0 F8.toArray rfl rfl a0 iT ET ?_;obtain⟨x,bi,ar⟩:=ba.out;rw[<-bi];clear bi a0 ba a9;have c5:=au ((aG.trans (C.1.mono aG.size)).trans (ar.below (by have:=aG.size;have:=C.1.size;omega) λb bd e=>by have:=aG.size;have:=C.2.2;omega));have aa:=au ((ar.block j (aW aN C.1.size) (λe=>by have:=aN.out;have:=C.2.2;omega)).trans ((C.1.block j aN).trans aY));have db:=au Q.2;clear ar aY aG Q C;have E:=ah aa 0;have F:=ah aa 1;have G:=ah aa 2;have H:=ah aa 3;have I:=ah aa 4;have J:=ah aa 5;have M:=ah aa 6;have N:=ah aa 7;simp only[cW,dm]at E F G H I J M N;have aX:∀g,x.frozen? ⟨j,g,none⟩=false:=λg=>by simp[World.frozen?,aa.out]
    go_wp2_with fail;rw[Cf];refine az (v:=.tuple #[M6,ab 4]) (results_cell_tmp results45 rfl (gO _ rfl (dD aa)) rfl) rfl ?_;exact ai ⟨4,rfl,kJ _ c5 ad,aj (aj ⟨rfl,rfl,hr,db⟩)⟩
   ·have aG:=au (a6.trans (Q.1.mono a6.size));have aY:=au ((Q.1.block j (aJ.1 bv).1).trans bv);have a9:Hid (∃B a,(B=al.alloc (.cells #[ab 0,ab 0,ab 0,af ⟨#[]⟩,ae none 0 0,ab 0,ab 0,af ⟨#[]⟩,ae none 0 0,ab 0,ab 0,af ⟨#[]⟩,ae none 0 0,ae none 0 0,ab 0,ab 0,af ⟨#[]⟩,ae none 0 0,ae none 0 0] 164)/\a=al.heap.size)/\Hid (ak al B/\B.heap[a]?=some (.cells #[ab 0,ab 0,ab 0,af ⟨#[]⟩,ae none 0 0,ab 0,ab 0,af ⟨#[]⟩,ae none 0 0,ab 0,ab 0,af ⟨#[]⟩,ae none 0 0,ae none 0 0,ab 0,ab 0,af ⟨#[]⟩,ae none 0 0,ae none 0 0] 164)/\al.heap.size<=a)):=⟨_,_,⟨rfl,rfl⟩,(aq _ _).alloc (ao _) _,aF _ _,ao _⟩;dsimp only
    iterate 13 go_step
    obtain⟨B,a,⟨bh,bf⟩,C⟩:=a9.out;rw[<-bh,<-bf];clear bh bf;have a0:Hid (B.there a 0 19):=dD C.2.1;have aN:=au (aJ.1 aY).1;have ba:Hid (∃x,x=B.setCells a 0 (C6 i y c (some ⟨l,0,none⟩) 4 r).toArray.toList/\Hid (x.rangeAt a 0 (C6 i y c (some ⟨l,0,none⟩) 4 r)/\bB (λaV=>aV=a) B x)):=⟨_,rfl,World.rangeAt_setCells_same B a 0 _ a0,(eF a _ 0 B).1⟩;refine wpList_store_mid rfl 164 (.tmp 12) (.tmp 49) rfl a 0 (C6 i y c (some ⟨l,0,none⟩) 4 r).toArray rfl rfl a0 iT (EU i y c _ 4 r) ?_;obtain⟨x,bi,ar⟩:=ba.out;rw[<-bi];clear bi a0 ba a9;have br:Hid (ak al x):=C.1.trans (ar.2.below C.1.size λb bd e=>by have:=C.2.2;omega);have bs:Hid (∀W:ag,x.heap[a]?=W.heap[a]? ->W.rangeAt a 0 (C6 i y c (some ⟨l,0,none⟩) 4 r)):=λW dl g v be=>by
     have:=ar.1 g v be;simp only[World.cell?,<-dl]at this ⊢;exact this
    have bM:=au C.2.2;have a7:Hid (a<x.heap.size):=aW (aJ.1 C.2.1).1 ar.2.size;have c4:x.cell? ⟨a,0,none⟩=some (ab i):=ar.1 0 _ rfl;clear C ar;obtain⟨ma,aU,aT,⟨bx,bV⟩,c8⟩:=cp.out i y c l r al x Q.2.2.2.2 br;have c6:=au (⟨Q.2.1,Q.2.2.1⟩:_/\_);have dY:(i:Int)<=1000000:=by have:=Q.2.2.2.1;omega
    have dX:(0:Int)<=(i:Int):=by omega
    have d0:IntKind.i64.wrap ((i:Int)+1)=(i:Int)+1:=by
     rw[IntKind.wrap_i64];omega
    clear Q cp;go_upto_region 9 with fail;have ca:Hid (ak x x.drew):=(aq _ _).drew;have R:x.drew.cell? ⟨A,7,none⟩=some (ae ma aU aT)/\x.drew.cell? ⟨a,0,none⟩=some (ab i):=⟨bx,c4⟩;clear bx c4 bV;refine wp_region_noPanic ?_;refine jJ (λw'=>w'.cell? ⟨A,7,none⟩=some (ae ma aU aT)/\w'.cell? ⟨a,0,none⟩=some (ab i)) 13 (by kernel_rfl) ?_
    try simp only[dT]
    refine aZ (i:=0) (v:= ?_) rfl (by kernel_rfl) (by kernel_rfl) (by kernel_rfl) (by kernel_rfl) (λ_ _ _ k=>k) rfl ?_ R ?_;rotate_left
    ·intro w' s
     try dsimp only at s
     go_simp
     try with_reducible rfl
    try simp only[Act.put]
    refine aZ (i:=1) (v:= ?_) rfl (by kernel_rfl) (by kernel_rfl) (by kernel_rfl) (by kernel_rfl) (λ_ _ _ k=>k) rfl ?_ R ?_;rotate_left
    ·intro w' s
     try dsimp only at s
     go_simp
     try with_reducible rfl
    try simp only[Act.put]
    refine aZ (i:=2) (v:= ?_) rfl (by kernel_rfl) (by kernel_rfl) (by kernel_rfl) (by kernel_rfl) (λ_ _ _ k=>k) rfl ?_ R ?_;rotate_left
    ·intro w' s
     try dsimp only at s
     go_simp
     try with_reducible rfl
    try simp only[Act.put]
    refine aZ (i:=3) (v:= ?_) rfl (by kernel_rfl) (by kernel_rfl) (by kernel_rfl) (by kernel_rfl) (λ_ _ _ k=>k) rfl ?_ R ?_;rotate_left
    ·intro w' s
     try dsimp only at s
     go_simp
     try with_reducible rfl
    try simp only[Act.put]
    refine aZ (i:=4) (v:= ?_) rfl (by kernel_rfl) (by kernel_rfl) (by kernel_rfl) (by kernel_rfl) (λ_ _ _ k=>k) rfl ?_ R ?_;rotate_left
    ·intro w' s
     try dsimp only at s
     go_simp
     try with_reducible rfl
    try simp only[Act.put]
    refine aZ (i:=5) (v:= ?_) rfl (by kernel_rfl) (by kernel_rfl) (by kernel_rfl) (by kernel_rfl) (λ_ _ _ k=>k) rfl ?_ R ?_;rotate_left
    ·intro w' s
     try dsimp only at s
     go_simp
     try with_reducible rfl
    try simp only[Act.put]
    refine aZ (i:=6) (v:= ?_) rfl (by kernel_rfl) (by kernel_rfl) (by kernel_rfl) (by kernel_rfl) (λ_ _ _ k=>k) rfl ?_ R ?_;rotate_left
    ·intro w' s
     try dsimp only at s
     go_simp
     try with_reducible rfl
    try simp only[Act.put]
    refine aZ (i:=7) (v:= ?_) rfl (by kernel_rfl) (by kernel_rfl) (by kernel_rfl) (by kernel_rfl) (λ_ _ _ k=>k) rfl ?_ R ?_;rotate_left
    ·intro w' s
     try dsimp only at s
     go_simp
     try with_reducible rfl
    try simp only[Act.put]
    refine aZ (i:=8) (v:= ?_) rfl (by kernel_rfl) (by kernel_rfl) (by kernel_rfl) (by kernel_rfl) (λ_ _ _ k=>k) rfl ?_ R ?_;rotate_left
    ·intro w' s
     try dsimp only at s
     go_simp
     try with_reducible rfl
    try simp only[Act.put]
    refine aZ (i:=9) (v:= ?_) rfl (by kernel_rfl) (by kernel_rfl) (by kernel_rfl) (by kernel_rfl) (λ_ _ _ k=>k) rfl ?_ R ?_;rotate_left
    ·intro w' s
     try dsimp only at s
     go_simp
     try with_reducible rfl
    try simp only[Act.put]
    refine dg (i:=10) (by kernel_rfl) rfl rfl (λK aI=>?_) (by decide)
    go_simp
    refine(c8 _ ca).mono ?_;rintro e bn ⟨bj,bl,bk,rfl,a3⟩;have bI:Hid (bB aE x bn):=(aO ca aE).trans a3.1 λ_ _ e=>e;have bc:bn.cell? ⟨A,7,none⟩=some (ae ma aU aT)/\bn.cell? ⟨a,0,none⟩=some (ab i):=⟨a3.2.1,(bI.cell 0 a7 (λe=>by have:=cr a e;have:=aG.size;have:=bM.out;omega)).trans R.2⟩;have bV:=a3.2.2.1;have cq:=au a3.2.2.2;have ck:Hid (bB aE x (bn.setCell ⟨A,7,none⟩ (ae bj bl bk))):=bI.trans (bH _ _ _ _) λb _ e=>by rw[e];exact dd
    refine aI _ _ (λ_=>bc) (λ_=>?_);clear aI K a3 R
    try simp only[Act.put,cg,du,dt]
    refine dg (i:=11) (by kernel_rfl) rfl rfl (λK aI=>?_) (by decide)
    go_simp
    refine aI _ _ (λ_=>bc) (λ_=>?_);clear aI K
    try simp only[Act.put,cg,du,dt]
    refine aZ (i:=12) (v:= ?_) rfl (by kernel_rfl) (by kernel_rfl) (by kernel_rfl) (by kernel_rfl) (λ_ _ _ k=>k) rfl ?_ bc ?_;rotate_left
    ·intro w' s
     try dsimp only at s
     go_simp
     try with_reducible rfl
    try simp only[Act.put,cg]
    have bx:=bc.1;refine jI (by kernel_rfl) rfl rfl (by kernel_rfl) (λK aI=>?_)
    go_simp
    refine aI _ _ (NoPanic.normal ?_);clear aI K bx bV bc
    try simp only[Act.put,cg,du,dt]
    have cy:Hid (∃X,X=bn.setCell ⟨A,7,none⟩ (ae bj bl bk)/\Hid (bP i y c l r X/\bB aE x X)):=⟨_,rfl,cq,ck⟩;obtain⟨X,c1,a4⟩:=cy.out;rw[<-c1];clear c1 cy cq bI ck;have bN:=au a4.2.size;have bt:Hid (∀b,w.heap.size<=b->¬aE b):=λb bd e=>by have:=cr b e;omega
    have cx:=au aG.size;have bL:=au ((a4.2.block j (aW aN br.size) (bt j (by rw[ad.out];exact ao _))).trans ((br.block j aN).trans aY));have bw:=au (a4.2.block a a7 (bt a (by have:=bM.out;have:=cx.out;omega)));have cb:=au (bs X bw.symm);have dN:X.cell? ⟨a,18,none⟩=some (ae (some ⟨l,0,none⟩) 4 r):=cb 18 _ rfl;have cA:Hid (∃u m,(u=X.alloc (.cells #[ae (some ⟨l,0,none⟩) 4 r,ab self,ab next,ae none 0 0,ae none 0 0,ae none 0 0,.bool false] 170)/\m=X.heap.size)/\Hid (ak X u/\u.heap[m]?=some (.cells #[ae (some ⟨l,0,none⟩) 4 r,ab self,ab next,ae none 0 0,ae none 0 0,ae none 0 0,.bool false] 170)/\X.heap.size<=m)):=⟨_,_,⟨rfl,rfl⟩,(aq _ _).alloc (ao _) _,aF _ _,ao _⟩;go_upto_region 11 with fail;obtain⟨u,m,⟨c2,aQ⟩,an⟩:=cA.out;rw[<-c2,<-aQ];clear c2 aQ cA dN;have O:=au (bs u (((an.1.block a (aW a7 bN)).trans bw).symm));have dy:u.cell? ⟨a,5,none⟩=some (ab c.1.1.1.1):=O 5 _ rfl;have dz:u.cell? ⟨a,6,none⟩=some (ab c.1.1.1.2.1):=O 6 _ rfl;have dE:u.cell? ⟨a,7,none⟩=some (af c.1.1.1.2.2):=O 7 _ rfl;have dF:u.cell? ⟨a,8,none⟩=some (ae c.1.1.2.1.1 c.1.1.2.2.length c.1.1.2.1.2):=O 8 _ rfl;have dG:u.cell? ⟨a,9,none⟩=some (ab c.1.2.1.1.1):=O 9 _ rfl;have dH:u.cell? ⟨a,10,none⟩=some (ab c.1.2.1.1.2.1):=O 10 _ rfl;have dI:u.cell? ⟨a,11,none⟩=some (af c.1.2.1.1.2.2):=O 11 _ rfl;have dJ:u.cell? ⟨a,12,none⟩=some (ae c.1.2.1.2.1.1 c.1.2.1.2.2.length c.1.2.1.2.1.2):=O 12 _ rfl;have dK:u.cell? ⟨a,13,none⟩=some (ae c.2.1.1 c.2.2.length c.2.1.2):=O 13 _ rfl;have dL:u.cell? ⟨a,14,none⟩=some (ab c.1.2.2.1.1):=O 14 _ rfl;have dA:u.cell? ⟨a,15,none⟩=some (ab c.1.2.2.1.2.1):=O 15 _ rfl;have dB:u.cell? ⟨a,16,none⟩=some (af c.1.2.2.1.2.2):=O 16 _ rfl;have dC:u.cell? ⟨a,17,none⟩=some (ae c.1.2.2.2.1.1 c.1.2.2.2.2.length c.1.2.2.2.1.2):=O 17 _ rfl;have ci:=au (cj i y c l r X u m a4.1 an.1 an.2.2 an.2.1);go_wp2_with fail;refine ci.mono ?_;rintro e aL ⟨f,rfl,a5⟩;clear dy dz dE dF dG dH dI dJ dK dL dA dB dC ci;have di:=au a5.1.size;have dh:=au an.1.size;have ax:Hid (j≠m/\j≠l/\a≠m/\a≠l/\j<u.heap.size/\a<u.heap.size/\w.heap.size<=j/\w.heap.size<=a):=by
     have cO:=ad.out;have cP:=da.out;have dk:=c6.out;have dQ:=bM.out;have dR:=a7.out;have dS:=bN.out;have dU:=an.2.2;have dV:=dh.out;have dW:=aN.out;have dO:=br.size;have dP:=cx.out;exact⟨by omega,by omega,by omega,by omega,by omega,by omega,by omega,by omega⟩
    have cs:=au ((a5.1.block j ax.2.2.2.2.1 (λe=>by
     rcases e with e|e|e
     ·exact bt j ax.2.2.2.2.2.2.1 e
     ·exact ax.1 e
     ·exact ax.2.1 e)).trans ((an.1.block j (aJ.1 bL).1).trans bL))
    have cc:=au (bs aL (((a5.1.block a ax.2.2.2.2.2.1 (λe=>by
     rcases e with e|e|e
     ·exact bt a ax.2.2.2.2.2.2.2 e
     ·exact ax.2.2.1 e
     ·exact ax.2.2.2.1 e)).trans ((an.1.block a (aW a7 bN)).trans bw)).symm))
    have cv:=au a5.2;clear a5 O cb bL bw a4 an bs cj;have cB:Hid (∃t h,(t=aL.alloc (.cells #[ab 0,ab 0,af ⟨#[]⟩,ae none 0 0,ab f,ae none 0 0,ae none 0 0,ae none 0 0] 117)/\h=aL.heap.size)/\Hid (ak aL t/\t.heap[h]?=some (.cells #[ab 0,ab 0,af ⟨#[]⟩,ae none 0 0,ab f,ae none 0 0,ae none 0 0,ae none 0 0] 117)/\aL.heap.size<=h)):=⟨_,_,⟨rfl,rfl⟩,(aq _ _).alloc (ao _) _,aF _ _,ao _⟩;go_upto_region 12 with fail;obtain⟨t,h,⟨cY,cV⟩,z⟩:=cB.out;rw[<-cY,<-cV];clear cY cV cB;have bE:t.cell? ⟨h,4,none⟩=some (ab f):=ah z.2.1 4;have bu:=au ((z.1.block j (aJ.1 cs).1).trans cs);have aM:Hid (j≠h/\a≠h/\a<aL.heap.size):=by
     have cO:=ax.out;have cP:=di.out;have dk:=z.2.2;exact⟨by omega,by omega,by omega⟩
    by_cases aS:f=0\/f=1
    ·by_cases bA:f=0
     case' pos=>have cR:(f==0)=true:=cF.2 bA
     case' neg=>
      have cR:(f==0)=false:=iH.2 bA;have dn:(f==1)=true:=cF.2 (aS.resolve_left bA)
     all_goals
      have a8:=au bu.out;have P:=au z.2.1;obtain⟨v0,v1,v2,c3,sa,sl,sc,pa,pl,pc,ka,kl,kc,aQ,cX⟩:=cv.out.1 aS;have bO:=au cX;have bG:=au ((z.1.block m (aJ.1 aQ).1).trans aQ);have dp:m≠h:=by
       have cO:=(aJ.1 aQ).1;have cP:=z.2.2;omega
      have dZ:h≠m:=λe=>dp e.symm;clear aQ cX bu aS bA;have cI:t.cell? ⟨m,3,none⟩=some (ae sa sl sc):=ah bG 3;have cJ:t.cell? ⟨m,4,none⟩=some (ae pa pl pc):=ah bG 4;have cK:t.cell? ⟨m,5,none⟩=some (ae ka kl kc):=ah bG 5;have cL:=ah P 5;have cM:=ah P 6;have cN:=ah P 7;simp only[cW,dm]at cL cM cN;have dj:∀g,t.frozen? ⟨h,g,none⟩=false:=λg=>by simp[World.frozen?,P.out]
      go_upto_region 13 with fail;go_region_held3 (λW=>W.cell? ⟨m,3,none⟩=some (ae sa sl sc)/\W.cell? ⟨m,4,none⟩=some (ae pa pl pc)/\W.cell? ⟨m,5,none⟩=some (ae ka kl kc)) (first|(go_keep;done)|exact⟨cI,cJ,cK⟩) ((fail));have cC:Hid (∃S,S=((t.setCell ⟨h,5,none⟩ (ae sa sl sc)).setCell ⟨h,6,none⟩ (ae pa pl pc)).setCell ⟨h,7,none⟩ (ae ka kl kc)/\Hid (bB (λb=>b=h) t S/\S.heap[h]?=some (.cells #[ab 0,ab 0,af ⟨#[]⟩,ae none 0 0,ab f,ae sa sl sc,ae pa pl pc,ae ka kl kc] 117))):=⟨_,rfl,bB.trans (bB.trans (bH t h 5 _) (bH _ h 6 _) λ_ _ e=>e) (bH _ h 7 _) λ_ _ e=>e,Hq P _ _ _⟩;obtain⟨S,cZ,Y⟩:=cC.out;rw[<-cZ];clear cZ cC cI cJ cK cL cM cN dj bE;have ct:=au ((Y.1.block j (aJ.1 a8).1 aM.1).trans a8);go_upto_region 14 with fail;have U:=au (λ(g:Nat)(v:av)(be:(C6 i y c (some ⟨l,0,none⟩) 4 r)[g]?=some v)=>(Y.1.cell (0+g) (aW aM.2.2 z.1.size) aM.2.1).trans ((z.1.cell (p:=⟨a,0+g,none⟩) aM.2.2).trans (cc g v be)));have b0:S.cell? ⟨a,1,none⟩=some (ab y.1.1):=U 1 _ rfl;have b1:S.cell? ⟨a,2,none⟩=some (ab y.1.2.1):=U 2 _ rfl;have b2:S.cell? ⟨a,3,none⟩=some (af y.1.2.2):=U 3 _ rfl;have b3:S.cell? ⟨a,4,none⟩=some (ae y.2.1.1 y.2.2.length y.2.1.2):=U 4 _ rfl;have ay:=ah Y.2 0;have aA:=ah Y.2 1;have aB:=ah Y.2 2;have aC:=ah Y.2 3;simp only[cW,dm]at ay aA aB aC;have b8:∀g,S.frozen? ⟨h,g,none⟩=false:=λg=>by simp[World.frozen?,Y.out.2]
      have bb:Hid (∃D,D=(((S.setCell ⟨h,0,none⟩ (ab y.1.1)).setCell ⟨h,1,none⟩ (ab y.1.2.1)).setCell ⟨h,2,none⟩ (af y.1.2.2)).setCell ⟨h,3,none⟩ (ae y.2.1.1 y.2.2.length y.2.1.2)/\Hid (bB (λb=>b=h) S D/\D.heap[h]?=some (.cells #[ab y.1.1,ab y.1.2.1,af y.1.2.2,ae y.2.1.1 y.2.2.length y.2.1.2,ab f,ae sa sl sc,ae pa pl pc,ae ka kl kc] 117))):=⟨_,rfl,ot S h 0 _ _ _ _,Fy Y.2 _ _ _ _⟩;go_upto_region 15 with fail;obtain⟨D,bg,o⟩:=bb.out;rw[<-bg];clear bg bb b0 b1 b2 b3 ay aA aB aC b8 U;have q:=au ((o.1.block j (aJ.1 ct).1 aM.1).trans ct);have ay:=ah o.2 0;have aA:=ah o.2 1;have aB:=ah o.2 2;have aC:=ah o.2 3;have b4:=ah o.2 4;have b5:=ah o.2 5;have b6:=ah o.2 6;have b7:=ah o.2 7;have E:=ah q 0;have F:=ah q 1;have G:=ah q 2;have H:=ah q 3;have I:=ah q 4;have J:=ah q 5;have M:=ah q 6;have N:=ah q 7;simp only[cW,dm]at ay aA aB aC b4 b5 b6 b7 E F G H I J M N;have aX:∀g,D.frozen? ⟨j,g,none⟩=false:=λg=>by simp[World.frozen?,q.out]
      go_wp2_with fail;rw[Cf];refine az (v:=.tuple #[OU y.1.1 y.1.2.1 y.1.2.2 y.2.1.1 y.2.2.length y.2.1.2 f sa sl sc pa pl pc ka kl kc,ab 0]) (results_cell_tmp results45 rfl (Bv _ rfl (dD q)) rfl) rfl ?_;refine aj ⟨i,y,c,f,sa,sl,sc,pa,pl,pc,ka,kl,kc,rfl,rfl,by first|rfl|exact hr,aL,D,bO,((z.1.trans (Y.1.below z.1.size λb bd e=>by have:=z.2.2;omega)).trans (o.1.below (aD z.1.size Y.1.size) λb bd e=>by have:=z.2.2;omega)),?_⟩;rw[<-ad.out];exact(eF j _ 0 D).1.trans (aO ((aq _ _).drew) _) λ_ _ e=>e
    ·have bO:=au (cv.2 aS);have cR:(f==0)=false:=iH.2 λe=>aS (ai e);have dn:(f==1)=false:=iH.2 λe=>aS (aj e);have a8:=au bu.out;have P:=au z.2.1;clear aS bE bu;have bE:t.cell? ⟨h,4,none⟩=some (ab f):=ah P 4;go_upto_region 14 with fail;clear bE;have U:=au (λg v be=>(z.1.cell (p:=⟨a,0+g,none⟩) aM.2.2).trans (cc g v be));have b0:t.cell? ⟨a,1,none⟩=some (ab y.1.1):=U 1 _ rfl;have b1:t.cell? ⟨a,2,none⟩=some (ab y.1.2.1):=U 2 _ rfl;have b2:t.cell? ⟨a,3,none⟩=some (af y.1.2.2):=U 3 _ rfl;have b3:t.cell? ⟨a,4,none⟩=some (ae y.2.1.1 y.2.2.length y.2.1.2):=U 4 _ rfl;have ay:=ah P 0;have aA:=ah P 1;have aB:=ah P 2;have aC:=ah P 3;simp only[cW,dm]at ay aA aB aC;have b8:∀g,t.frozen? ⟨h,g,none⟩=false:=λg=>by simp[World.frozen?,P.out]
     have bb:Hid (∃D,D=(((t.setCell ⟨h,0,none⟩ (ab y.1.1)).setCell ⟨h,1,none⟩ (ab y.1.2.1)).setCell ⟨h,2,none⟩ (af y.1.2.2)).setCell ⟨h,3,none⟩ (ae y.2.1.1 y.2.2.length y.2.1.2)/\Hid (bB (λb=>b=h) t D/\D.heap[h]?=some (.cells #[ab y.1.1,ab y.1.2.1,af y.1.2.2,ae y.2.1.1 y.2.2.length y.2.1.2,ab f,ae none 0 0,ae none 0 0,ae none 0 0] 117))):=⟨_,rfl,ot t h 0 _ _ _ _,Fy P _ _ _ _⟩;go_upto_region 15 with fail;obtain⟨D,bg,o⟩:=bb.out;rw[<-bg];clear bg bb b0 b1 b2 b3 ay aA aB aC b8 U;have q:=au ((o.1.block j (aJ.1 a8).1 aM.1).trans a8);have ay:=ah o.2 0;have aA:=ah o.2 1;have aB:=ah o.2 2;have aC:=ah o.2 3;have b4:=ah o.2 4;have b5:=ah o.2 5;have b6:=ah o.2 6;have b7:=ah o.2 7;have E:=ah q 0;have F:=ah q 1;have G:=ah q 2;have H:=ah q 3;have I:=ah q 4;have J:=ah q 5;have M:=ah q 6;have N:=ah q 7;simp only[cW,dm]at ay aA aB aC b4 b5 b6 b7 E F G H I J M N;have aX:∀g,D.frozen? ⟨j,g,none⟩=false:=λg=>by simp[World.frozen?,q.out]
     go_wp2_with fail;rw[Cf];refine az (v:=.tuple #[OU y.1.1 y.1.2.1 y.1.2.2 y.2.1.1 y.2.2.length y.2.1.2 f none 0 0 none 0 0 none 0 0,ab 0]) (results_cell_tmp results45 rfl (gO _ rfl (dD q)) rfl) rfl ?_;refine aj ⟨i,y,c,f,none,0,0,none,0,0,none,0,0,rfl,rfl,by first|rfl|exact hr,aL,D,bO,(z.1.trans (o.1.below z.1.size λb bd e=>by have:=z.2.2;omega)),?_⟩;rw[<-ad.out];exact(eF j _ 0 D).1
end Go.Proofs.YtmmahddlcldmiaaGreat
