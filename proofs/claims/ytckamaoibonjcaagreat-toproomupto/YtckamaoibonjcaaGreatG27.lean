/- What is proved here: the walk of proc's Step, over what its calls leave. No condition but that all lies in memory. -/
import Derived.Test.YtckamaoibonjcaaGreatG26
namespace Go.Proofs.YtckamaoibonjcaaGreat
open Go.RowKit
set_option maxRecDepth 100000
set_option maxHeartbeats 8000000
def Nr(y0 y1:Int)(y2:ByteArray)(ya:Option Addr)(yl yc:Nat)(f:Int)(sa:Option Addr)(sl sc:Nat)(pa:Option Addr)(pl pc:Nat)(ka:Option Addr)(kl kc:Nat):Value:=.agg #[ab y0,ab y1,af y2,ae ya yl yc,ab f,ae sa sl sc,ae pa pl pc,ae ka kl kc]
def LC:Value:=.agg #[ab 0,ab 0,af ⟨#[]⟩,ae none 0 0,ab 0,ae none 0 0,ae none 0 0,ae none 0 0]
def OG{n:Nat}(d:Int)(rng:Bool)(j:Prop)(T:Nat->Tc->Cl (n+1)->Int->Option Addr->Nat->Nat->Option Addr->Nat->Nat->Option Addr->Nat->Nat->World->Prop)(w:World)(e:Ending)(w':World):Prop:=
 (∃g,e=.returned (.tuple #[LC,ab g])/\Hid (aj w w'/\((g=d/\d≠0)\/(g=1/\d=0/\rng=false)\/(g=4/\d=0/\rng=true/\j))))\/
  ∃(k:Nat)(a:Tc)(c:Cl (n+1))(f:Int)(sa:Option Addr)(sl sc:Nat)(pa:Option Addr)(pl pc:Nat)(ka:Option Addr)(kl kc:Nat),e=.returned (.tuple #[Nr a.1.1 a.1.2.1 a.1.2.2 a.2.1.1 a.2.2.length a.2.1.2 f sa sl sc pa pl pc ka kl kc,ab 0])/\Hid (d=0/\rng=true/\∃h i,T k a c f sa sl sc pa pl pc ka kl kc h/\aj h i/\bq (λb=>b=w.heap.size) i w')
theorem Bj(w:World)(q:Nat)(v0 v1 v2 v3 a b c d:Value):(((((((w.setCell ⟨q,0,none⟩ v0).setCell ⟨q,1,none⟩ v1).setCell ⟨q,2,none⟩ v2).setCell ⟨q,3,none⟩ v3).setCell ⟨q,4,none⟩ a).setCell ⟨q,5,none⟩ b).setCell ⟨q,6,none⟩ c).setCell ⟨q,7,none⟩ d=w.setCells q 0 [v0,v1,v2,v3,a,b,c,d]:=rfl
theorem Ex{w:World}{q:Nat}{f g h i a b c d:Value}{t:TypeId}(e:w.heap[q]?=some (.cells #[f,g,h,i,a,b,c,d] t))(v0 v1 v2 v3:Value):((((w.setCell ⟨q,0,none⟩ v0).setCell ⟨q,1,none⟩ v1).setCell ⟨q,2,none⟩ v2).setCell ⟨q,3,none⟩ v3).heap[q]?=some (.cells #[v0,v1,v2,v3,a,b,c,d] t):=by
 unfold World.setCell;simp[bG,e]
theorem Gi{w:World}{q:Nat}{v0 v1 v2 v3 a f g h:Value}{t:TypeId}(e:w.heap[q]?=some (.cells #[v0,v1,v2,v3,a,f,g,h] t))(b c d:Value):(((w.setCell ⟨q,5,none⟩ b).setCell ⟨q,6,none⟩ c).setCell ⟨q,7,none⟩ d).heap[q]?=some (.cells #[v0,v1,v2,v3,a,b,c,d] t):=by
 unfold World.setCell;simp[bG,e]
theorem wg:(Tryz.prog.info? 112).map (·.size)=some 8:=by kernel_rfl
theorem gB{W:World}{q:Nat}(vs:List Value)(a:vs.length=8)(b:W.there q 0 8):(loadVar 112 ⟨q,0,none⟩).run Tryz.prog (W.setCells q 0 vs)=.ok (.agg vs.toArray) (W.setCells q 0 vs):=
 run_loadVar_mid (P:=Tryz.prog) (W.setCells q 0 vs) q 0 112 vs _ (World.rangeAt_setCells_same W q 0 vs (by rw[a];exact b)) Tryz.underlying112 rfl (by rw[a];exact wg)
theorem AE{W:World}{q:Nat}(vs:List Value)(a:vs.length=8)(b:W.there q 0 8):(loadVar 112 ⟨q,0,none⟩).run Tryz.prog (W.setCells q 0 vs).drew=.ok (.agg vs.toArray) (W.setCells q 0 vs).drew:=
 run_loadVar_mid (P:=Tryz.prog) (W.setCells q 0 vs).drew q 0 112 vs _ ((World.rangeAt_drew _ _ _ _).2 (World.rangeAt_setCells_same W q 0 vs (by rw[a];exact b))) Tryz.underlying112 rfl (by rw[a];exact wg)
theorem j9{w W:World}{q:Nat}(vs:List Value)(a:aj w W)(d:q=w.heap.size):aj w (W.setCells q 0 vs):=a.trans ((dY q vs 0 W).1.below a.size λb c e=>by omega)
theorem Gt{n:Nat}(A:Nat)(name:ByteArray)(bV:Option Addr)(L bW:Nat)(self next:Int)(aL:Int)(cB:Option Addr)(cA cC:Nat)(w:World)(cz:Prop)(K bK:Nat->Tc->Cl (n+1)->Nat->Nat->World->Prop)(T:Nat->Tc->Cl (n+1)->Int->Option Addr->Nat->Nat->Option Addr->Nat->Nat->Option Addr->Nat->Nat->World->Prop)(rng:Bool)(aC:Nat->Prop)(dp:A<w.heap.size)(cn:Hid (∀b,aC b->b<w.heap.size))(da:Hid (aC A))(aX:Hid (rng=(decide (1<=self) && decide (self<=99) && decide (1<=next) && decide (next<=92))))(cq:Hid (∀W,aj w W->am 34 #[ae bV L bW] W λe w'=>∃y0 y1 y2 ya yl yc,e=.returned (.tuple #[.agg #[ab y0,ab y1,af y2,ae ya yl yc],ab aL])/\Hid (aj W w')))(c9:Hid (w.cell? ⟨A,0,none⟩=some (af name)))(cc:Hid (∀W,aL=0->aj w W->am 70 #[ae bV L bW,af name] W λe w'=>e=.returned (ae cB cA cC)/\Hid (aj W w')))(ca:Hid (∀W,aL=0->rng=true->aj w W->am 69 #[aF A,ae cB cA cC] W λe w'=>(e=.returned (.tuple #[.agg EZ.toArray,.bool false])/\Hid (aj W w'/\cz))\/∃(i:Nat)(y:Tc)(c:Cl (n+1))(l r:Nat),e=.returned (.tuple #[.agg (Cb i y c (some ⟨l,0,none⟩) 4 r).toArray,.bool true])/\Hid (aj W w'/\W.heap.size<=l/\l<w'.heap.size/\i<=1000000/\K i y c l r w')))(ck:Hid (∀i y c l r aW W,K i y c l r aW->aj aW W->∃ma aQ aP,(W.cell? ⟨A,7,none⟩=some (ae ma aQ aP)/\W.frozen? ⟨A,7,none⟩=false)/\Hid (∀bL,aj W bL->am 71 #[ae ma aQ aP,ab i,ab ((i:Int)+1)] bL λe w'=>∃be bg bf,e=.returned (ae be bg bf)/\Hid (bq aC bL w'/\w'.cell? ⟨A,7,none⟩=some (ae ma aQ aP)/\w'.frozen? ⟨A,7,none⟩=false/\bK i y c l r (w'.setCell ⟨A,7,none⟩ (ae be bg bf))))))(cf:Hid (∀i y c l r aW W m,bK i y c l r aW->aj aW W->aW.heap.size<=m->W.heap[m]?=some (.cells #[ae (some ⟨l,0,none⟩) 4 r,ab self,ab next,ae none 0 0,ae none 0 0,ae none 0 0,.bool false] 155)->am 72 #[aF A,Oo c,aF m] W λe w'=>∃f,e=.returned (ab f)/\Hid (bq (λb=>aC b\/b=m\/b=l) W w'/\(f=0\/f=1->∃v0 v1 v2 c0 sa sl sc pa pl pc ka kl kc,w'.heap[m]?=some (.cells #[v0,v1,v2,ae sa sl sc,ae pa pl pc,ae ka kl kc,c0] 155)/\T i y c f sa sl sc pa pl pc ka kl kc w')/\(¬(f=0\/f=1)->T i y c f none 0 0 none 0 0 none 0 0 w')))):am 43 #[aF A,ae bV L bW,ab self,ab next] w (OG aL rng cz T w):=by
 have cs:Hid (∃bh aR bx,(bh=w.alloc bx/\aR=w.heap.size/\bx=.cells #[ab 0,ab 0,af ⟨#[]⟩,ae none 0 0,ab 0,ae none 0 0,ae none 0 0,ae none 0 0] 112)/\aj w bh/\bh.heap[aR]?=some bx/\w.heap.size<bh.heap.size/\Hid (aR=w.heap.size)):=⟨_,_,_,⟨rfl,rfl,rfl⟩,(ap _ _).alloc (ak _) _,aB _ _,by simp,rfl⟩;go_enter Tryz.func43,Tryz.ntmps43;go_upto_region 1 with fail;obtain⟨bh,j,bx,⟨bS,cQ,cP⟩,cL,bR,cO,ad⟩:=cs.out;rw[cP]at bS bR;rw[<-bS,<-cQ];have bl:=ao cL;have bE:=ao bR;have ch:=ao cO;clear bS cQ cP cL bR cO cs;go_wp2_with fail;refine(cq.out _ bl.out).mono ?_;rintro e b6 ⟨y0,y1,y2,ya,yl,yc,rfl,bj⟩;have bB:=ao (bl.out.trans (bj.out.mono bl.out.size));have bF:Hid (b6.heap[j]?=_):=(bj.out.block j (aD.1 bE.out).1).trans bE.out;have ci:=ao (aN ch.out bj.out.size);clear bj bE bl ch cq;have cv:Hid (∃V,V=b6.alloc (.cells #[ab y0,ab y1,af y2,ae ya yl yc] 30)/\aj b6 V):=⟨_,rfl,(ap _ _).alloc (ak _) _⟩;go_upto_region 2 with fail;obtain⟨V,cW,bw⟩:=cv.out;rw[<-cW];have Z:=ao (bB.out.trans (bw.mono bB.out.size));have d:Hid (V.heap[j]?=_):=(bw.block j (aD.1 bF.out).1).trans bF.out;have cj:=ao (aN ci.out bw.size);clear cW bw cv bF bB ci;by_cases bu:aL=0;rotate_left
 ·have c6:=ao bu;have E:=ag d.out 0;have F:=ag d.out 1;have G:=ag d.out 2;have H:=ag d.out 3;have I:=ag d.out 4;have J:=ag d.out 5;have M:=ag d.out 6;have N:=ag d.out 7;simp only[cN,cY]at E F G H I J M N;have aT:∀g,V.frozen? ⟨j,g,none⟩=false:=λg=>by simp[World.frozen?,d.out]
  go_wp2_with fail;rw[Bj];refine av (v:=.tuple #[LC,ab aL]) (results_cell_tmp Tryz.results43 rfl (gB _ rfl (dm d.out)) rfl) rfl ?_;exact ah ⟨aL,rfl,j9 _ Z.out ad.out,ah ⟨rfl,c6.out⟩⟩
 ·have cd:=ao λW=>cc.out W bu;have cb:=ao λW=>ca.out W bu;clear cc ca;subst bu;cases hr:rng
  ·rw[hr]at aX;have db:=ao aX.out;clear aX;by_cases dq:self<1
   ·have E:=ag d.out 0;have F:=ag d.out 1;have G:=ag d.out 2;have H:=ag d.out 3;have I:=ag d.out 4;have J:=ag d.out 5;have M:=ag d.out 6;have N:=ag d.out 7;simp only[cN,cY]at E F G H I J M N;have aT:∀g,V.frozen? ⟨j,g,none⟩=false:=λg=>by simp[World.frozen?,d.out]
    go_wp2_with fail;rw[Bj];refine av (v:=.tuple #[LC,ab 1]) (results_cell_tmp Tryz.results43 rfl (gB _ rfl (dm d.out)) rfl) rfl ?_;exact ah ⟨1,rfl,j9 _ Z.out ad.out,ai (ah ⟨rfl,rfl,by first|rfl|exact hr⟩)⟩
   ·by_cases dr:99<self
    ·have E:=ag d.out 0;have F:=ag d.out 1;have G:=ag d.out 2;have H:=ag d.out 3;have I:=ag d.out 4;have J:=ag d.out 5;have M:=ag d.out 6;have N:=ag d.out 7;simp only[cN,cY]at E F G H I J M N;have aT:∀g,V.frozen? ⟨j,g,none⟩=false:=λg=>by simp[World.frozen?,d.out]
     go_wp2_with fail;rw[Bj];refine av (v:=.tuple #[LC,ab 1]) (results_cell_tmp Tryz.results43 rfl (gB _ rfl (dm d.out)) rfl) rfl ?_;exact ah ⟨1,rfl,j9 _ Z.out ad.out,ai (ah ⟨rfl,rfl,by first|rfl|exact hr⟩)⟩
    ·by_cases ds:next<1
     ·have E:=ag d.out 0;have F:=ag d.out 1;have G:=ag d.out 2;have H:=ag d.out 3;have I:=ag d.out 4;have J:=ag d.out 5;have M:=ag d.out 6;have N:=ag d.out 7;simp only[cN,cY]at E F G H I J M N;have aT:∀g,V.frozen? ⟨j,g,none⟩=false:=λg=>by simp[World.frozen?,d.out]
      go_wp2_with fail;rw[Bj];refine av (v:=.tuple #[LC,ab 1]) (results_cell_tmp Tryz.results43 rfl (gB _ rfl (dm d.out)) rfl) rfl ?_;exact ah ⟨1,rfl,j9 _ Z.out ad.out,ai (ah ⟨rfl,rfl,by first|rfl|exact hr⟩)⟩
     ·by_cases dt:92<next
      ·have E:=ag d.out 0;have F:=ag d.out 1;have G:=ag d.out 2;have H:=ag d.out 3;have I:=ag d.out 4;have J:=ag d.out 5;have M:=ag d.out 6;have N:=ag d.out 7;simp only[cN,cY]at E F G H I J M N;have aT:∀g,V.frozen? ⟨j,g,none⟩=false:=λg=>by simp[World.frozen?,d.out]
       go_wp2_with fail;rw[Bj];refine av (v:=.tuple #[LC,ab 1]) (results_cell_tmp Tryz.results43 rfl (gB _ rfl (dm d.out)) rfl) rfl ?_;exact ah ⟨1,rfl,j9 _ Z.out ad.out,ai (ah ⟨rfl,rfl,by first|rfl|exact hr⟩)⟩
      ·exfalso;have k:=db.out;have bM:1<=self:=by omega
       have bN:self<=99:=by omega
       have bO:1<=next:=by omega
       have bP:next<=92:=by omega
       simp[bM,bN,bO,bP]at k
  ·rw[hr]at aX;have dc:=ao aX.out;have ⟨bM,bN,bO,bP⟩:1<=self/\self<=99/\1<=next/\next<=92:=by
    have k:=dc.out;simp only[Bool.true_eq,aA,bU]at k;exact⟨k.1.1.1,k.1.1.2,k.1.2,k.2⟩
   have dq:¬self<1:=by omega
   have dr:¬99<self:=by omega
   have ds:¬next<1:=by omega
   have dt:¬92<next:=by omega
   have dn:V.cell? ⟨A,0,none⟩=some (af name):=(Z.out.cell (p:=⟨A,0,none⟩) dp).trans c9.out;have c4:=ao λW=>cb.out W hr;clear bM bN bO bP aX cb;go_wp2_with fail;refine(cd.out V Z.out).mono ?_;rintro e dH ⟨rfl,bk⟩;have a1:=ao (Z.out.trans (bk.out.mono Z.out.size));have br:=ao ((bk.out.block j (aD.1 d.out).1).trans d.out);have c7:=ao (aN cj.out bk.out.size);clear bk cd d Z cj dn;go_wp2_with fail;refine(c4.out dH a1.out).mono ?_;rintro e al (⟨rfl,Q⟩|⟨i,y,c,l,r,rfl,Q⟩)
   ·have aE:=ao (a1.out.trans (Q.out.1.mono a1.out.size));have aU:=ao ((Q.out.1.block j (aD.1 br.out).1).trans br.out);have a4:Hid (∃B a,(B=al.alloc (.cells #[ab 0,ab 0,ab 0,af ⟨#[]⟩,ae none 0 0,ab 0,ab 0,af ⟨#[]⟩,ae none 0 0,ab 0,ab 0,af ⟨#[]⟩,ae none 0 0,ae none 0 0,ab 0,ab 0,af ⟨#[]⟩,ae none 0 0,ae none 0 0] 149)/\a=al.heap.size)/\Hid (aj al B/\B.heap[a]?=some (.cells #[ab 0,ab 0,ab 0,af ⟨#[]⟩,ae none 0 0,ab 0,ab 0,af ⟨#[]⟩,ae none 0 0,ab 0,ab 0,af ⟨#[]⟩,ae none 0 0,ae none 0 0,ab 0,ab 0,af ⟨#[]⟩,ae none 0 0,ae none 0 0] 149)/\al.heap.size<=a)):=⟨_,_,⟨rfl,rfl⟩,(ap _ _).alloc (ak _) _,aB _ _,ak _⟩;dsimp only
    iterate 13 go_step
    obtain⟨B,a,⟨bc,ba⟩,C⟩:=a4.out;rw[<-bc,<-ba];clear bc ba;have aV:Hid (B.there a 0 19):=dm C.out.2.1;have aK:=ao (aD.1 aU.out).1;have a5:Hid (∃x,x=B.setCells a 0 EZ.toArray.toList/\Hid (bq (λaR=>aR=a) B x)):=⟨_,rfl,(dY a _ 0 B).1⟩;refine wpList_store_mid rfl 149 (.tmp 12) (.tmp 49) rfl a 0 EZ.toArray rfl rfl aV.out iv DU ?_;obtain⟨x,bd,aq⟩:=a5.out;rw[<-bd];clear bd aV a5 a4;have c2:=ao ((aE.out.trans (C.out.1.mono aE.out.size)).trans (aq.out.below (by have:=aE.out.size;have:=C.out.1.size;omega) λb a8 e=>by have:=aE.out.size;have:=C.out.2.2;omega));have aa:=ao ((aq.out.block j (aN aK.out C.out.1.size) (λe=>by have:=aK.out;have:=C.out.2.2;omega)).trans ((C.out.1.block j aK.out).trans aU.out));have c8:=ao Q.out.2;clear aq aU aE Q C;have E:=ag aa.out 0;have F:=ag aa.out 1;have G:=ag aa.out 2;have H:=ag aa.out 3;have I:=ag aa.out 4;have J:=ag aa.out 5;have M:=ag aa.out 6;have N:=ag aa.out 7;simp only[cN,cY]at E F G H I J M N;have aT:∀g,x.frozen? ⟨j,g,none⟩=false:=λg=>by simp[World.frozen?,aa.out]
    go_wp2_with fail;rw[Bj];refine av (v:=.tuple #[LC,ab 4]) (results_cell_tmp Tryz.results43 rfl (gB _ rfl (dm aa.out)) rfl) rfl ?_;exact ah ⟨4,rfl,j9 _ c2.out ad.out,ai (ai ⟨rfl,rfl,hr,c8.out⟩)⟩
   ·have aE:=ao (a1.out.trans (Q.out.1.mono a1.out.size));have aU:=ao ((Q.out.1.block j (aD.1 br.out).1).trans br.out);have a4:Hid (∃B a,(B=al.alloc (.cells #[ab 0,ab 0,ab 0,af ⟨#[]⟩,ae none 0 0,ab 0,ab 0,af ⟨#[]⟩,ae none 0 0,ab 0,ab 0,af ⟨#[]⟩,ae none 0 0,ae none 0 0,ab 0,ab 0,af ⟨#[]⟩,ae none 0 0,ae none 0 0] 149)/\a=al.heap.size)/\Hid (aj al B/\B.heap[a]?=some (.cells #[ab 0,ab 0,ab 0,af ⟨#[]⟩,ae none 0 0,ab 0,ab 0,af ⟨#[]⟩,ae none 0 0,ab 0,ab 0,af ⟨#[]⟩,ae none 0 0,ae none 0 0,ab 0,ab 0,af ⟨#[]⟩,ae none 0 0,ae none 0 0] 149)/\al.heap.size<=a)):=⟨_,_,⟨rfl,rfl⟩,(ap _ _).alloc (ak _) _,aB _ _,ak _⟩;dsimp only
    iterate 13 go_step
    obtain⟨B,a,⟨bc,ba⟩,C⟩:=a4.out;rw[<-bc,<-ba];clear bc ba;have aV:Hid (B.there a 0 19):=dm C.out.2.1;have aK:=ao (aD.1 aU.out).1;have a5:Hid (∃x,x=B.setCells a 0 (Cb i y c (some ⟨l,0,none⟩) 4 r).toArray.toList/\Hid (x.rangeAt a 0 (Cb i y c (some ⟨l,0,none⟩) 4 r)/\bq (λaR=>aR=a) B x)):=⟨_,rfl,World.rangeAt_setCells_same B a 0 _ aV.out,(dY a _ 0 B).1⟩;refine wpList_store_mid rfl 149 (.tmp 12) (.tmp 49) rfl a 0 (Cb i y c (some ⟨l,0,none⟩) 4 r).toArray rfl rfl aV.out iv (DV i y c _ 4 r) ?_;obtain⟨x,bd,aq⟩:=a5.out;rw[<-bd];clear bd aV a5 a4;have bm:Hid (aj al x):=C.out.1.trans (aq.out.2.below C.out.1.size λb a8 e=>by have:=C.out.2.2;omega);have bn:Hid (∀W:World,x.heap[a]?=W.heap[a]? ->W.rangeAt a 0 (Cb i y c (some ⟨l,0,none⟩) 4 r)):=λW dj g v a9=>by
     have:=aq.out.1 g v a9;simp only[World.cell?,<-dj]at this ⊢;exact this
    have bH:=ao C.out.2.2;have a2:Hid (a<x.heap.size):=aN (aD.1 C.out.2.1).1 aq.out.2.size;have c1:x.cell? ⟨a,0,none⟩=some (ab i):=aq.out.1 0 _ rfl;clear C aq;obtain⟨ma,aQ,aP,⟨bt,bQ⟩,c5⟩:=ck.out i y c l r al x Q.out.2.2.2.2 bm.out;have c3:=ao (⟨Q.out.2.1,Q.out.2.2.1⟩:_/\_);have dS:(i:Int)<=1000000:=by have:=Q.out.2.2.2.1;omega
    have dR:(0:Int)<=(i:Int):=by omega
    have dU:IntKind.i64.wrap ((i:Int)+1)=(i:Int)+1:=by
     rw[IntKind.wrap_i64];omega
    clear Q ck;go_upto_region 9 with fail;have b7:Hid (aj x x.drew):=(ap _ _).drew;have R:x.drew.cell? ⟨A,7,none⟩=some (ae ma aQ aP)/\x.drew.cell? ⟨a,0,none⟩=some (ab i):=⟨bt,c1⟩;clear bt c1 bQ;refine wp_region_noPanic ?_;refine ji (λw'=>w'.cell? ⟨A,7,none⟩=some (ae ma aQ aP)/\w'.cell? ⟨a,0,none⟩=some (ab i)) 13 (by kernel_rfl) ?_
    try simp only[eW]
    refine aS (i:=0) (v:= ?_) rfl (by kernel_rfl) (by kernel_rfl) (by kernel_rfl) (by kernel_rfl) (λ_ _ _ k=>k) rfl ?_ R ?_;rotate_left
    ·intro w' s
     try dsimp only at s
     go_simp
     try with_reducible rfl
    try simp only[Act.put]
    refine aS (i:=1) (v:= ?_) rfl (by kernel_rfl) (by kernel_rfl) (by kernel_rfl) (by kernel_rfl) (λ_ _ _ k=>k) rfl ?_ R ?_;rotate_left
    ·intro w' s
     try dsimp only at s
     go_simp
     try with_reducible rfl
    try simp only[Act.put]
    refine aS (i:=2) (v:= ?_) rfl (by kernel_rfl) (by kernel_rfl) (by kernel_rfl) (by kernel_rfl) (λ_ _ _ k=>k) rfl ?_ R ?_;rotate_left
    ·intro w' s
     try dsimp only at s
     go_simp
     try with_reducible rfl
    try simp only[Act.put]
    refine aS (i:=3) (v:= ?_) rfl (by kernel_rfl) (by kernel_rfl) (by kernel_rfl) (by kernel_rfl) (λ_ _ _ k=>k) rfl ?_ R ?_;rotate_left
    ·intro w' s
     try dsimp only at s
     go_simp
     try with_reducible rfl
    try simp only[Act.put]
    refine aS (i:=4) (v:= ?_) rfl (by kernel_rfl) (by kernel_rfl) (by kernel_rfl) (by kernel_rfl) (λ_ _ _ k=>k) rfl ?_ R ?_;rotate_left
    ·intro w' s
     try dsimp only at s
     go_simp
     try with_reducible rfl
    try simp only[Act.put]
    refine aS (i:=5) (v:= ?_) rfl (by kernel_rfl) (by kernel_rfl) (by kernel_rfl) (by kernel_rfl) (λ_ _ _ k=>k) rfl ?_ R ?_;rotate_left
    ·intro w' s
     try dsimp only at s
     go_simp
     try with_reducible rfl
    try simp only[Act.put]
    refine aS (i:=6) (v:= ?_) rfl (by kernel_rfl) (by kernel_rfl) (by kernel_rfl) (by kernel_rfl) (λ_ _ _ k=>k) rfl ?_ R ?_;rotate_left
    ·intro w' s
     try dsimp only at s
     go_simp
     try with_reducible rfl
    try simp only[Act.put]
    refine aS (i:=7) (v:= ?_) rfl (by kernel_rfl) (by kernel_rfl) (by kernel_rfl) (by kernel_rfl) (λ_ _ _ k=>k) rfl ?_ R ?_;rotate_left
    ·intro w' s
     try dsimp only at s
     go_simp
     try with_reducible rfl
    try simp only[Act.put]
    refine aS (i:=8) (v:= ?_) rfl (by kernel_rfl) (by kernel_rfl) (by kernel_rfl) (by kernel_rfl) (λ_ _ _ k=>k) rfl ?_ R ?_;rotate_left
    ·intro w' s
     try dsimp only at s
     go_simp
     try with_reducible rfl
    try simp only[Act.put]
    refine aS (i:=9) (v:= ?_) rfl (by kernel_rfl) (by kernel_rfl) (by kernel_rfl) (by kernel_rfl) (λ_ _ _ k=>k) rfl ?_ R ?_;rotate_left
    ·intro w' s
     try dsimp only at s
     go_simp
     try with_reducible rfl
    try simp only[Act.put]
    refine cV (i:=10) (by kernel_rfl) rfl rfl (λK aG=>?_) (by decide)
    go_simp
    refine(c5.out _ b7.out).mono ?_;rintro e bi ⟨be,bg,bf,rfl,aY⟩;have bD:Hid (bq aC x bi):=(aI b7.out aC).trans aY.out.1 λ_ _ e=>e;have a7:bi.cell? ⟨A,7,none⟩=some (ae ma aQ aP)/\bi.cell? ⟨a,0,none⟩=some (ab i):=⟨aY.out.2.1,(bD.out.cell 0 a2.out (λe=>by have:=cn.out a e;have:=aE.out.size;have:=bH.out;omega)).trans R.2⟩;have bQ:=aY.out.2.2.1;have cl:=ao aY.out.2.2.2;have cg:Hid (bq aC x (bi.setCell ⟨A,7,none⟩ (ae be bg bf))):=bD.out.trans (bz _ _ _ _) λb _ e=>by rw[e];exact da.out
    refine aG.out _ _ (λ_=>a7) (λ_=>?_);clear aG K aY R
    try simp only[Act.put,bT,dg,df]
    refine cV (i:=11) (by kernel_rfl) rfl rfl (λK aG=>?_) (by decide)
    go_simp
    refine aG.out _ _ (λ_=>a7) (λ_=>?_);clear aG K
    try simp only[Act.put,bT,dg,df]
    refine aS (i:=12) (v:= ?_) rfl (by kernel_rfl) (by kernel_rfl) (by kernel_rfl) (by kernel_rfl) (λ_ _ _ k=>k) rfl ?_ a7 ?_;rotate_left
    ·intro w' s
     try dsimp only at s
     go_simp
     try with_reducible rfl
    try simp only[Act.put,bT]
    have bt:=a7.1;refine jh (by kernel_rfl) rfl rfl (by kernel_rfl) (λK aG=>?_)
    go_simp
    refine aG.out _ _ (NoPanic.normal ?_);clear aG K bt bQ a7
    try simp only[Act.put,bT,dg,df]
    have cu:Hid (∃X,X=bi.setCell ⟨A,7,none⟩ (ae be bg bf)/\Hid (bK i y c l r X/\bq aC x X)):=⟨_,rfl,cl.out,cg.out⟩;obtain⟨X,cX,aZ⟩:=cu.out;rw[<-cX];clear cX cu cl bD cg;have bI:=ao aZ.out.2.size;have bo:Hid (∀b,w.heap.size<=b->¬aC b):=λb a8 e=>by have:=cn.out b e;omega
    have ct:=ao aE.out.size;have bG:=ao ((aZ.out.2.block j (aN aK.out bm.out.size) (bo.out j (by rw[ad.out];exact ak _))).trans ((bm.out.block j aK.out).trans aU.out));have bs:=ao (aZ.out.2.block a a2.out (bo.out a (by have:=bH.out;have:=ct.out;omega)));have b8:=ao (bn.out X bs.out.symm);have dI:X.cell? ⟨a,18,none⟩=some (ae (some ⟨l,0,none⟩) 4 r):=b8.out 18 _ rfl;have cw:Hid (∃u m,(u=X.alloc (.cells #[ae (some ⟨l,0,none⟩) 4 r,ab self,ab next,ae none 0 0,ae none 0 0,ae none 0 0,.bool false] 155)/\m=X.heap.size)/\Hid (aj X u/\u.heap[m]?=some (.cells #[ae (some ⟨l,0,none⟩) 4 r,ab self,ab next,ae none 0 0,ae none 0 0,ae none 0 0,.bool false] 155)/\X.heap.size<=m)):=⟨_,_,⟨rfl,rfl⟩,(ap _ _).alloc (ak _) _,aB _ _,ak _⟩;go_upto_region 11 with fail;obtain⟨u,m,⟨cZ,aM⟩,an⟩:=cw.out;rw[<-cZ,<-aM];clear cZ aM cw dI;have O:=ao (bn.out u (((an.out.1.block a (aN a2.out bI.out)).trans bs.out).symm));have du:u.cell? ⟨a,5,none⟩=some (ab c.1.1.1.1):=O.out 5 _ rfl;have dv:u.cell? ⟨a,6,none⟩=some (ab c.1.1.1.2.1):=O.out 6 _ rfl;have dz:u.cell? ⟨a,7,none⟩=some (af c.1.1.1.2.2):=O.out 7 _ rfl;have dA:u.cell? ⟨a,8,none⟩=some (ae c.1.1.2.1.1 c.1.1.2.2.length c.1.1.2.1.2):=O.out 8 _ rfl;have dB:u.cell? ⟨a,9,none⟩=some (ab c.1.2.1.1.1):=O.out 9 _ rfl;have dC:u.cell? ⟨a,10,none⟩=some (ab c.1.2.1.1.2.1):=O.out 10 _ rfl;have dD:u.cell? ⟨a,11,none⟩=some (af c.1.2.1.1.2.2):=O.out 11 _ rfl;have dE:u.cell? ⟨a,12,none⟩=some (ae c.1.2.1.2.1.1 c.1.2.1.2.2.length c.1.2.1.2.1.2):=O.out 12 _ rfl;have dF:u.cell? ⟨a,13,none⟩=some (ae c.2.1.1 c.2.2.length c.2.1.2):=O.out 13 _ rfl;have dG:u.cell? ⟨a,14,none⟩=some (ab c.1.2.2.1.1):=O.out 14 _ rfl;have dw:u.cell? ⟨a,15,none⟩=some (ab c.1.2.2.1.2.1):=O.out 15 _ rfl;have dx:u.cell? ⟨a,16,none⟩=some (af c.1.2.2.1.2.2):=O.out 16 _ rfl;have dy:u.cell? ⟨a,17,none⟩=some (ae c.1.2.2.2.1.1 c.1.2.2.2.2.length c.1.2.2.2.1.2):=O.out 17 _ rfl;have ce:=ao (cf.out i y c l r X u m aZ.out.1 an.out.1 an.out.2.2 an.out.2.1);go_wp2_with fail;refine ce.out.mono ?_;rintro e aH ⟨f,rfl,a0⟩;clear du dv dz dA dB dC dD dE dF dG dw dx dy ce;have de:=ao a0.out.1.size;have dd:=ao an.out.1.size;have ar:Hid (j≠m/\j≠l/\a≠m/\a≠l/\j<u.heap.size/\a<u.heap.size/\w.heap.size<=j/\w.heap.size<=a):=by
     have cJ:=ad.out;have cK:=c7.out;have di:=c3.out;have dL:=bH.out;have dM:=a2.out;have dN:=bI.out;have dO:=an.out.2.2;have dP:=dd.out;have dQ:=aK.out;have dJ:=bm.out.size;have dK:=ct.out;exact⟨by omega,by omega,by omega,by omega,by omega,by omega,by omega,by omega⟩
    have co:=ao ((a0.out.1.block j ar.out.2.2.2.2.1 (λe=>by
     rcases e with e|e|e
     ·exact bo.out j ar.out.2.2.2.2.2.2.1 e
     ·exact ar.out.1 e
     ·exact ar.out.2.1 e)).trans ((an.out.1.block j (aD.1 bG.out).1).trans bG.out))
    have b9:=ao (bn.out aH (((a0.out.1.block a ar.out.2.2.2.2.2.1 (λe=>by
     rcases e with e|e|e
     ·exact bo.out a ar.out.2.2.2.2.2.2.2 e
     ·exact ar.out.2.2.1 e
     ·exact ar.out.2.2.2.1 e)).trans ((an.out.1.block a (aN a2.out bI.out)).trans bs.out)).symm))
    have cr:=ao a0.out.2;clear a0 O b8 bG bs aZ an bn cf;have cx:Hid (∃t h,(t=aH.alloc (.cells #[ab 0,ab 0,af ⟨#[]⟩,ae none 0 0,ab f,ae none 0 0,ae none 0 0,ae none 0 0] 112)/\h=aH.heap.size)/\Hid (aj aH t/\t.heap[h]?=some (.cells #[ab 0,ab 0,af ⟨#[]⟩,ae none 0 0,ab f,ae none 0 0,ae none 0 0,ae none 0 0] 112)/\aH.heap.size<=h)):=⟨_,_,⟨rfl,rfl⟩,(ap _ _).alloc (ak _) _,aB _ _,ak _⟩;go_upto_region 12 with fail;obtain⟨t,h,⟨cT,cR⟩,z⟩:=cx.out;rw[<-cT,<-cR];clear cT cR cx;have bA:t.cell? ⟨h,4,none⟩=some (ab f):=ag z.out.2.1 4;have bp:=ao ((z.out.1.block j (aD.1 co.out).1).trans co.out);have aJ:Hid (j≠h/\a≠h/\a<aH.heap.size):=by
     have cJ:=ar.out;have cK:=de.out;have di:=z.out.2.2;exact⟨by omega,by omega,by omega⟩
    by_cases aO:f=0\/f=1
    ·by_cases bv:f=0
     case' pos=>have cM:(f==0)=true:=cm.2 bv
     case' neg=>
      have cM:(f==0)=false:=gn.2 bv;have dk:(f==1)=true:=cm.2 (aO.resolve_left bv)
     all_goals
      have a3:=ao bp.out;have P:=ao z.out.2.1;obtain⟨v0,v1,v2,c0,sa,sl,sc,pa,pl,pc,ka,kl,kc,aM,cS⟩:=cr.out.1 aO;have bJ:=ao cS;have bC:=ao ((z.out.1.block m (aD.1 aM).1).trans aM);have dl:m≠h:=by
       have cJ:=(aD.1 aM).1;have cK:=z.out.2.2;omega
      have dT:h≠m:=λe=>dl e.symm;clear aM cS bp aO bv;have cD:t.cell? ⟨m,3,none⟩=some (ae sa sl sc):=ag bC.out 3;have cE:t.cell? ⟨m,4,none⟩=some (ae pa pl pc):=ag bC.out 4;have cF:t.cell? ⟨m,5,none⟩=some (ae ka kl kc):=ag bC.out 5;have cG:=ag P.out 5;have cH:=ag P.out 6;have cI:=ag P.out 7;simp only[cN,cY]at cG cH cI;have dh:∀g,t.frozen? ⟨h,g,none⟩=false:=λg=>by simp[World.frozen?,P.out]
      go_upto_region 13 with fail;go_region_held3 (λW=>W.cell? ⟨m,3,none⟩=some (ae sa sl sc)/\W.cell? ⟨m,4,none⟩=some (ae pa pl pc)/\W.cell? ⟨m,5,none⟩=some (ae ka kl kc)) (first|(go_keep;done)|exact⟨cD,cE,cF⟩) ((fail));have cy:Hid (∃S,S=((t.setCell ⟨h,5,none⟩ (ae sa sl sc)).setCell ⟨h,6,none⟩ (ae pa pl pc)).setCell ⟨h,7,none⟩ (ae ka kl kc)/\Hid (bq (λb=>b=h) t S/\S.heap[h]?=some (.cells #[ab 0,ab 0,af ⟨#[]⟩,ae none 0 0,ab f,ae sa sl sc,ae pa pl pc,ae ka kl kc] 112))):=⟨_,rfl,bq.trans (bq.trans (bz t h 5 _) (bz _ h 6 _) λ_ _ e=>e) (bz _ h 7 _) λ_ _ e=>e,Gi P.out _ _ _⟩;obtain⟨S,cU,Y⟩:=cy.out;rw[<-cU];clear cU cy cD cE cF cG cH cI dh bA;have cp:=ao ((Y.out.1.block j (aD.1 a3.out).1 aJ.out.1).trans a3.out);go_upto_region 14 with fail;have U:=ao (λ(g:Nat)(v:Value)(a9:(Cb i y c (some ⟨l,0,none⟩) 4 r)[g]?=some v)=>(Y.out.1.cell (0+g) (aN aJ.out.2.2 z.out.1.size) aJ.out.2.1).trans ((z.out.1.cell (p:=⟨a,0+g,none⟩) aJ.out.2.2).trans (b9.out g v a9)));have bX:S.cell? ⟨a,1,none⟩=some (ab y.1.1):=U.out 1 _ rfl;have bY:S.cell? ⟨a,2,none⟩=some (ab y.1.2.1):=U.out 2 _ rfl;have bZ:S.cell? ⟨a,3,none⟩=some (af y.1.2.2):=U.out 3 _ rfl;have b0:S.cell? ⟨a,4,none⟩=some (ae y.2.1.1 y.2.2.length y.2.1.2):=U.out 4 _ rfl;have au:=ag Y.out.2 0;have aw:=ag Y.out.2 1;have ax:=ag Y.out.2 2;have az:=ag Y.out.2 3;simp only[cN,cY]at au aw ax az;have b5:∀g,S.frozen? ⟨h,g,none⟩=false:=λg=>by simp[World.frozen?,Y.out.2]
      have a6:Hid (∃D,D=(((S.setCell ⟨h,0,none⟩ (ab y.1.1)).setCell ⟨h,1,none⟩ (ab y.1.2.1)).setCell ⟨h,2,none⟩ (af y.1.2.2)).setCell ⟨h,3,none⟩ (ae y.2.1.1 y.2.2.length y.2.1.2)/\Hid (bq (λb=>b=h) S D/\D.heap[h]?=some (.cells #[ab y.1.1,ab y.1.2.1,af y.1.2.2,ae y.2.1.1 y.2.2.length y.2.1.2,ab f,ae sa sl sc,ae pa pl pc,ae ka kl kc] 112))):=⟨_,rfl,nE S h 0 _ _ _ _,Ex Y.out.2 _ _ _ _⟩;go_upto_region 15 with fail;obtain⟨D,bb,o⟩:=a6.out;rw[<-bb];clear bb a6 bX bY bZ b0 au aw ax az b5 U;have q:=ao ((o.out.1.block j (aD.1 cp.out).1 aJ.out.1).trans cp.out);have au:=ag o.out.2 0;have aw:=ag o.out.2 1;have ax:=ag o.out.2 2;have az:=ag o.out.2 3;have b1:=ag o.out.2 4;have b2:=ag o.out.2 5;have b3:=ag o.out.2 6;have b4:=ag o.out.2 7;have E:=ag q.out 0;have F:=ag q.out 1;have G:=ag q.out 2;have H:=ag q.out 3;have I:=ag q.out 4;have J:=ag q.out 5;have M:=ag q.out 6;have N:=ag q.out 7;simp only[cN,cY]at au aw ax az b1 b2 b3 b4 E F G H I J M N;have aT:∀g,D.frozen? ⟨j,g,none⟩=false:=λg=>by simp[World.frozen?,q.out]
      go_wp2_with fail;rw[Bj];refine av (v:=.tuple #[Nr y.1.1 y.1.2.1 y.1.2.2 y.2.1.1 y.2.2.length y.2.1.2 f sa sl sc pa pl pc ka kl kc,ab 0]) (results_cell_tmp Tryz.results43 rfl (AE _ rfl (dm q.out)) rfl) rfl ?_;refine ai ⟨i,y,c,f,sa,sl,sc,pa,pl,pc,ka,kl,kc,rfl,rfl,by first|rfl|exact hr,aH,D,bJ.out,((z.out.1.trans (Y.out.1.below z.out.1.size λb a8 e=>by have:=z.out.2.2;omega)).trans (o.out.1.below (ay z.out.1.size Y.out.1.size) λb a8 e=>by have:=z.out.2.2;omega)),?_⟩;rw[<-ad.out];exact(dY j _ 0 D).1.trans (aI ((ap _ _).drew) _) λ_ _ e=>e
    ·have bJ:=ao (cr.out.2 aO);have cM:(f==0)=false:=gn.2 λe=>aO (ah e);have dk:(f==1)=false:=gn.2 λe=>aO (ai e);have a3:=ao bp.out;have P:=ao z.out.2.1;clear aO bA bp;have bA:t.cell? ⟨h,4,none⟩=some (ab f):=ag P.out 4;go_upto_region 14 with fail;clear bA;have U:=ao (λg v a9=>(z.out.1.cell (p:=⟨a,0+g,none⟩) aJ.out.2.2).trans (b9.out g v a9));have bX:t.cell? ⟨a,1,none⟩=some (ab y.1.1):=U.out 1 _ rfl;have bY:t.cell? ⟨a,2,none⟩=some (ab y.1.2.1):=U.out 2 _ rfl;have bZ:t.cell? ⟨a,3,none⟩=some (af y.1.2.2):=U.out 3 _ rfl;have b0:t.cell? ⟨a,4,none⟩=some (ae y.2.1.1 y.2.2.length y.2.1.2):=U.out 4 _ rfl;have au:=ag P.out 0;have aw:=ag P.out 1;have ax:=ag P.out 2;have az:=ag P.out 3;simp only[cN,cY]at au aw ax az;have b5:∀g,t.frozen? ⟨h,g,none⟩=false:=λg=>by simp[World.frozen?,P.out]
     have a6:Hid (∃D,D=(((t.setCell ⟨h,0,none⟩ (ab y.1.1)).setCell ⟨h,1,none⟩ (ab y.1.2.1)).setCell ⟨h,2,none⟩ (af y.1.2.2)).setCell ⟨h,3,none⟩ (ae y.2.1.1 y.2.2.length y.2.1.2)/\Hid (bq (λb=>b=h) t D/\D.heap[h]?=some (.cells #[ab y.1.1,ab y.1.2.1,af y.1.2.2,ae y.2.1.1 y.2.2.length y.2.1.2,ab f,ae none 0 0,ae none 0 0,ae none 0 0] 112))):=⟨_,rfl,nE t h 0 _ _ _ _,Ex P.out _ _ _ _⟩;go_upto_region 15 with fail;obtain⟨D,bb,o⟩:=a6.out;rw[<-bb];clear bb a6 bX bY bZ b0 au aw ax az b5 U;have q:=ao ((o.out.1.block j (aD.1 a3.out).1 aJ.out.1).trans a3.out);have au:=ag o.out.2 0;have aw:=ag o.out.2 1;have ax:=ag o.out.2 2;have az:=ag o.out.2 3;have b1:=ag o.out.2 4;have b2:=ag o.out.2 5;have b3:=ag o.out.2 6;have b4:=ag o.out.2 7;have E:=ag q.out 0;have F:=ag q.out 1;have G:=ag q.out 2;have H:=ag q.out 3;have I:=ag q.out 4;have J:=ag q.out 5;have M:=ag q.out 6;have N:=ag q.out 7;simp only[cN,cY]at au aw ax az b1 b2 b3 b4 E F G H I J M N;have aT:∀g,D.frozen? ⟨j,g,none⟩=false:=λg=>by simp[World.frozen?,q.out]
     go_wp2_with fail;rw[Bj];refine av (v:=.tuple #[Nr y.1.1 y.1.2.1 y.1.2.2 y.2.1.1 y.2.2.length y.2.1.2 f none 0 0 none 0 0 none 0 0,ab 0]) (results_cell_tmp Tryz.results43 rfl (gB _ rfl (dm q.out)) rfl) rfl ?_;refine ai ⟨i,y,c,f,none,0,0,none,0,0,none,0,0,rfl,rfl,by first|rfl|exact hr,aH,D,bJ.out,(z.out.1.trans (o.out.1.below z.out.1.size λb a8 e=>by have:=z.out.2.2;omega)),?_⟩;rw[<-ad.out];exact(dY j _ 0 D).1
end Go.Proofs.YtckamaoibonjcaaGreat
