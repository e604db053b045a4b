/- What is proved here: the walk of proc's Step, over what its calls leave. No condition but that all lies in memory. -/
import Derived.Test.YtckamaoibonjcaaGreatG26
namespace Go.Proofs.YtckamaoibonjcaaGreat
open Go.RowKit
set_option maxRecDepth 100000
set_option maxHeartbeats 8000000
def M2(y0 y1:Int)(y2:ByteArray)(ya:Option Addr)(yl yc:Nat)(f:Int)(sa:Option Addr)(sl sc:Nat)(pa:Option Addr)(pl pc:Nat)(ka:Option Addr)(kl kc:Nat):Value:=.agg #[.int .i64 y0,.int .i64 y1,.string y2,.slice ya yl yc,.int .i64 f,.slice sa sl sc,.slice pa pl pc,.slice ka kl kc]
def Lj:Value:=.agg #[.int .i64 0,.int .i64 0,.string ⟨#[]⟩,.slice none 0 0,.int .i64 0,.slice none 0 0,.slice none 0 0,.slice none 0 0]
def Oi{n:Nat}(d:Int)(rng:Bool)(j:Prop)(T:Nat->Tc->Cl (n+1)->Int->Option Addr->Nat->Nat->Option Addr->Nat->Nat->Option Addr->Nat->Nat->World->Prop)(w:World)(e:Ending)(w':World):Prop:=
 (∃g,e=.returned (.tuple #[Lj,.int .i64 g])/\Hid (ag w w'/\((g=d/\d≠0)\/(g=1/\d=0/\rng=false)\/(g=4/\d=0/\rng=true/\j))))\/
  ∃(k:Nat)(a:Tc)(c:Cl (n+1))(f:Int)(sa:Option Addr)(sl sc:Nat)(pa:Option Addr)(pl pc:Nat)(ka:Option Addr)(kl kc:Nat),e=.returned (.tuple #[M2 a.1.1 a.1.2.1 a.1.2.2 a.2.1.1 a.2.2.length a.2.1.2 f sa sl sc pa pl pc ka kl kc,.int .i64 0])/\Hid (d=0/\rng=true/\∃h i,T k a c f sa sl sc pa pl pc ka kl kc h/\ag h i/\bi (λb=>b=w.heap.size) i w')
theorem A3(w:World)(q:Nat)(v0 v1 v2 v3 a b c d:Value):(((((((w.setCell ⟨q,0,none⟩ v0).setCell ⟨q,1,none⟩ v1).setCell ⟨q,2,none⟩ v2).setCell ⟨q,3,none⟩ v3).setCell ⟨q,4,none⟩ a).setCell ⟨q,5,none⟩ b).setCell ⟨q,6,none⟩ c).setCell ⟨q,7,none⟩ d=w.setCells q 0 [v0,v1,v2,v3,a,b,c,d]:=rfl
theorem Eg{w:World}{q:Nat}{f g h i a b c d:Value}{t:TypeId}(e:w.heap[q]?=some (.cells #[f,g,h,i,a,b,c,d] t))(v0 v1 v2 v3:Value):((((w.setCell ⟨q,0,none⟩ v0).setCell ⟨q,1,none⟩ v1).setCell ⟨q,2,none⟩ v2).setCell ⟨q,3,none⟩ v3).heap[q]?=some (.cells #[v0,v1,v2,v3,a,b,c,d] t):=by
 unfold World.setCell;simp[bC,e]
theorem FX{w:World}{q:Nat}{v0 v1 v2 v3 a f g h:Value}{t:TypeId}(e:w.heap[q]?=some (.cells #[v0,v1,v2,v3,a,f,g,h] t))(b c d:Value):(((w.setCell ⟨q,5,none⟩ b).setCell ⟨q,6,none⟩ c).setCell ⟨q,7,none⟩ d).heap[q]?=some (.cells #[v0,v1,v2,v3,a,b,c,d] t):=by
 unfold World.setCell;simp[bC,e]
theorem vP:(Tryz.prog.info? 112).map (·.size)=some 8:=by kernel_rfl
theorem gj{W:World}{q:Nat}(vs:List Value)(a:vs.length=8)(b:W.there q 0 8):(loadVar 112 ⟨q,0,none⟩).run Tryz.prog (W.setCells q 0 vs)=.ok (.agg vs.toArray) (W.setCells q 0 vs):=
 run_loadVar_mid (P:=Tryz.prog) (W.setCells q 0 vs) q 0 112 vs _ (World.rangeAt_setCells_same W q 0 vs (by rw[a];exact b)) Tryz.underlying112 rfl (by rw[a];exact vP)
theorem Ap{W:World}{q:Nat}(vs:List Value)(a:vs.length=8)(b:W.there q 0 8):(loadVar 112 ⟨q,0,none⟩).run Tryz.prog (W.setCells q 0 vs).drew=.ok (.agg vs.toArray) (W.setCells q 0 vs).drew:=
 run_loadVar_mid (P:=Tryz.prog) (W.setCells q 0 vs).drew q 0 112 vs _ ((World.rangeAt_drew _ _ _ _).2 (World.rangeAt_setCells_same W q 0 vs (by rw[a];exact b))) Tryz.underlying112 rfl (by rw[a];exact vP)
theorem jT{w W:World}{q:Nat}(vs:List Value)(a:ag w W)(d:q=w.heap.size):ag w (W.setCells q 0 vs):=a.trans ((dT q vs 0 W).1.below a.size λb c e=>by omega)
theorem Gb{n:Nat}(A:Nat)(name:ByteArray)(bQ:Option Addr)(L bR:Nat)(self next:Int)(aH:Int)(cx:Option Addr)(cw cy:Nat)(w:World)(cv:Prop)(K bG:Nat->Tc->Cl (n+1)->Nat->Nat->World->Prop)(T:Nat->Tc->Cl (n+1)->Int->Option Addr->Nat->Nat->Option Addr->Nat->Nat->Option Addr->Nat->Nat->World->Prop)(rng:Bool)(az:Nat->Prop)(dk:A<w.heap.size)(cj:Hid (∀b,az b->b<w.heap.size))(c7:Hid (az A))(aT:Hid (rng=(decide (1<=self) && decide (self<=99) && decide (1<=next) && decide (next<=92))))(cm:Hid (∀W,ag w W->ah 34 #[.slice bQ L bR] W λe w'=>∃y0 y1 y2 ya yl yc,e=.returned (.tuple #[.agg #[.int .i64 y0,.int .i64 y1,.string y2,.slice ya yl yc],.int .i64 aH])/\Hid (ag W w')))(c6:Hid (w.cell? ⟨A,0,none⟩=some (.string name)))(b8:Hid (∀W,aH=0->ag w W->ah 70 #[.slice bQ L bR,.string name] W λe w'=>e=.returned (.slice cx cw cy)/\Hid (ag W w')))(b6:Hid (∀W,aH=0->rng=true->ag w W->ah 69 #[.pointer (some ⟨A,0,none⟩),.slice cx cw cy] W λe w'=>(e=.returned (.tuple #[.agg EJ.toArray,.bool false])/\Hid (ag W w'/\cv))\/∃(i:Nat)(y:Tc)(c:Cl (n+1))(l r:Nat),e=.returned (.tuple #[.agg (BT i y c (some ⟨l,0,none⟩) 4 r).toArray,.bool true])/\Hid (ag W w'/\W.heap.size<=l/\l<w'.heap.size/\i<=1000000/\K i y c l r w')))(ch:Hid (∀i y c l r aS W,K i y c l r aS->ag aS W->∃ma aN aL,(W.cell? ⟨A,7,none⟩=some (.slice ma aN aL)/\W.frozen? ⟨A,7,none⟩=false)/\Hid (∀bH,ag W bH->ah 71 #[.slice ma aN aL,.int .i64 i,.int .i64 ((i:Int)+1)] bH λe w'=>∃ba bc bb,e=.returned (.slice ba bc bb)/\Hid (bi az bH w'/\w'.cell? ⟨A,7,none⟩=some (.slice ma aN aL)/\w'.frozen? ⟨A,7,none⟩=false/\bG i y c l r (w'.setCell ⟨A,7,none⟩ (.slice ba bc bb))))))(cc:Hid (∀i y c l r aS W m,bG i y c l r aS->ag aS W->aS.heap.size<=m->W.heap[m]?=some (.cells #[.slice (some ⟨l,0,none⟩) 4 r,.int .i64 self,.int .i64 next,.slice none 0 0,.slice none 0 0,.slice none 0 0,.bool false] 155)->ah 72 #[.pointer (some ⟨A,0,none⟩),N2 c,.pointer (some ⟨m,0,none⟩)] W λe w'=>∃f,e=.returned (.int .i64 f)/\Hid (bi (λb=>az b\/b=m\/b=l) W w'/\(f=0\/f=1->∃v0 v1 v2 cW sa sl sc pa pl pc ka kl kc,w'.heap[m]?=some (.cells #[v0,v1,v2,.slice sa sl sc,.slice pa pl pc,.slice ka kl kc,cW] 155)/\T i y c f sa sl sc pa pl pc ka kl kc w')/\(¬(f=0\/f=1)->T i y c f none 0 0 none 0 0 none 0 0 w')))):ah 43 #[.pointer (some ⟨A,0,none⟩),.slice bQ L bR,.int .i64 self,.int .i64 next] w (Oi aH rng cv T w):=by
 have co:Hid (∃bd aO bu,(bd=w.alloc bu/\aO=w.heap.size/\bu=.cells #[.int .i64 0,.int .i64 0,.string ⟨#[]⟩,.slice none 0 0,.int .i64 0,.slice none 0 0,.slice none 0 0,.slice none 0 0] 112)/\ag w bd/\bd.heap[aO]?=some bu/\w.heap.size<bd.heap.size/\Hid (aO=w.heap.size)):=⟨_,_,_,⟨rfl,rfl,rfl⟩,(ak _ _).alloc (ai _) _,ax _ _,by simp,rfl⟩;go_enter Tryz.func43,Tryz.ntmps43;go_upto_region 1 with fail;obtain⟨bd,j,bu,⟨bO,cM,cL⟩,cI,bN,cK,ad⟩:=co.out;rw[cL]at bO bN;rw[<-bO,<-cM];have bh:=aj cI;have bA:=aj bN;have ce:=aj cK;clear bO cM cL cI bN cK co;go_wp2_with fail;refine(cm.out _ bh.out).mono ?_;rintro e b2 ⟨y0,y1,y2,ya,yl,yc,rfl,bf⟩;have bw:=aj (bh.out.trans (bf.out.mono bh.out.size));have bB:Hid (b2.heap[j]?=_):=(bf.out.block j (aA.1 bA.out).1).trans bA.out;have cf:=aj (aJ ce.out bf.out.size);clear bf bA bh ce cm;have cr:Hid (∃V,V=b2.alloc (.cells #[.int .i64 y0,.int .i64 y1,.string y2,.slice ya yl yc] 30)/\ag b2 V):=⟨_,rfl,(ak _ _).alloc (ai _) _⟩;go_upto_region 2 with fail;obtain⟨V,cS,bs⟩:=cr.out;rw[<-cS];have Z:=aj (bw.out.trans (bs.mono bw.out.size));have d:Hid (V.heap[j]?=_):=(bs.block j (aA.1 bB.out).1).trans bB.out;have cg:=aj (aJ cf.out bs.size);clear cS bs cr bB bw cf;by_cases bq:aH=0;rotate_left
 ·have c3:=aj bq;have E:=ab d.out 0;have F:=ab d.out 1;have G:=ab d.out 2;have H:=ab d.out 3;have I:=ab d.out 4;have J:=ab d.out 5;have M:=ab d.out 6;have N:=ab d.out 7;simp only[cG,cT]at E F G H I J M N;have aP:∀g,V.frozen? ⟨j,g,none⟩=false:=λg=>by simp[World.frozen?,d.out]
  go_wp2_with fail;rw[A3];refine ap (v:=.tuple #[Lj,.int .i64 aH]) (results_cell_tmp Tryz.results43 rfl (gj _ rfl (dg d.out)) rfl) rfl ?_;exact ae ⟨aH,rfl,jT _ Z.out ad.out,ae ⟨rfl,c3.out⟩⟩
 ·have ca:=aj λW=>b8.out W bq;have b7:=aj λW=>b6.out W bq;clear b8 b6;subst bq;cases hr:rng
  ·rw[hr]at aT;have c8:=aj aT.out;clear aT;by_cases dl:self<1
   ·have E:=ab d.out 0;have F:=ab d.out 1;have G:=ab d.out 2;have H:=ab d.out 3;have I:=ab d.out 4;have J:=ab d.out 5;have M:=ab d.out 6;have N:=ab d.out 7;simp only[cG,cT]at E F G H I J M N;have aP:∀g,V.frozen? ⟨j,g,none⟩=false:=λg=>by simp[World.frozen?,d.out]
    go_wp2_with fail;rw[A3];refine ap (v:=.tuple #[Lj,.int .i64 1]) (results_cell_tmp Tryz.results43 rfl (gj _ rfl (dg d.out)) rfl) rfl ?_;exact ae ⟨1,rfl,jT _ Z.out ad.out,af (ae ⟨rfl,rfl,by first|rfl|exact hr⟩)⟩
   ·by_cases dm:99<self
    ·have E:=ab d.out 0;have F:=ab d.out 1;have G:=ab d.out 2;have H:=ab d.out 3;have I:=ab d.out 4;have J:=ab d.out 5;have M:=ab d.out 6;have N:=ab d.out 7;simp only[cG,cT]at E F G H I J M N;have aP:∀g,V.frozen? ⟨j,g,none⟩=false:=λg=>by simp[World.frozen?,d.out]
     go_wp2_with fail;rw[A3];refine ap (v:=.tuple #[Lj,.int .i64 1]) (results_cell_tmp Tryz.results43 rfl (gj _ rfl (dg d.out)) rfl) rfl ?_;exact ae ⟨1,rfl,jT _ Z.out ad.out,af (ae ⟨rfl,rfl,by first|rfl|exact hr⟩)⟩
    ·by_cases dn:next<1
     ·have E:=ab d.out 0;have F:=ab d.out 1;have G:=ab d.out 2;have H:=ab d.out 3;have I:=ab d.out 4;have J:=ab d.out 5;have M:=ab d.out 6;have N:=ab d.out 7;simp only[cG,cT]at E F G H I J M N;have aP:∀g,V.frozen? ⟨j,g,none⟩=false:=λg=>by simp[World.frozen?,d.out]
      go_wp2_with fail;rw[A3];refine ap (v:=.tuple #[Lj,.int .i64 1]) (results_cell_tmp Tryz.results43 rfl (gj _ rfl (dg d.out)) rfl) rfl ?_;exact ae ⟨1,rfl,jT _ Z.out ad.out,af (ae ⟨rfl,rfl,by first|rfl|exact hr⟩)⟩
     ·by_cases dp:92<next
      ·have E:=ab d.out 0;have F:=ab d.out 1;have G:=ab d.out 2;have H:=ab d.out 3;have I:=ab d.out 4;have J:=ab d.out 5;have M:=ab d.out 6;have N:=ab d.out 7;simp only[cG,cT]at E F G H I J M N;have aP:∀g,V.frozen? ⟨j,g,none⟩=false:=λg=>by simp[World.frozen?,d.out]
       go_wp2_with fail;rw[A3];refine ap (v:=.tuple #[Lj,.int .i64 1]) (results_cell_tmp Tryz.results43 rfl (gj _ rfl (dg d.out)) rfl) rfl ?_;exact ae ⟨1,rfl,jT _ Z.out ad.out,af (ae ⟨rfl,rfl,by first|rfl|exact hr⟩)⟩
      ·exfalso;have k:=c8.out;have bI:1<=self:=by omega
       have bJ:self<=99:=by omega
       have bK:1<=next:=by omega
       have bL:next<=92:=by omega
       simp[bI,bJ,bK,bL]at k
  ·rw[hr]at aT;have c9:=aj aT.out;have ⟨bI,bJ,bK,bL⟩:1<=self/\self<=99/\1<=next/\next<=92:=by
    have k:=c9.out;simp only[Bool.true_eq,ay,bT]at k;exact⟨k.1.1.1,k.1.1.2,k.1.2,k.2⟩
   have dl:¬self<1:=by omega
   have dm:¬99<self:=by omega
   have dn:¬next<1:=by omega
   have dp:¬92<next:=by omega
   have dj:V.cell? ⟨A,0,none⟩=some (.string name):=(Z.out.cell (p:=⟨A,0,none⟩) dk).trans c6.out;have c1:=aj λW=>b7.out W hr;clear bI bJ bK bL aT b7;go_wp2_with fail;refine(ca.out V Z.out).mono ?_;rintro e dD ⟨rfl,bg⟩;have aX:=aj (Z.out.trans (bg.out.mono Z.out.size));have bn:=aj ((bg.out.block j (aA.1 d.out).1).trans d.out);have c4:=aj (aJ cg.out bg.out.size);clear bg ca d Z cg dj;go_wp2_with fail;refine(c1.out dD aX.out).mono ?_;rintro e al (⟨rfl,Q⟩|⟨i,y,c,l,r,rfl,Q⟩)
   ·have aB:=aj (aX.out.trans (Q.out.1.mono aX.out.size));have aQ:=aj ((Q.out.1.block j (aA.1 bn.out).1).trans bn.out);have a0:Hid (∃B a,(B=al.alloc (.cells #[.int .i64 0,.int .i64 0,.int .i64 0,.string ⟨#[]⟩,.slice none 0 0,.int .i64 0,.int .i64 0,.string ⟨#[]⟩,.slice none 0 0,.int .i64 0,.int .i64 0,.string ⟨#[]⟩,.slice none 0 0,.slice none 0 0,.int .i64 0,.int .i64 0,.string ⟨#[]⟩,.slice none 0 0,.slice none 0 0] 149)/\a=al.heap.size)/\Hid (ag al B/\B.heap[a]?=some (.cells #[.int .i64 0,.int .i64 0,.int .i64 0,.string ⟨#[]⟩,.slice none 0 0,.int .i64 0,.int .i64 0,.string ⟨#[]⟩,.slice none 0 0,.int .i64 0,.int .i64 0,.string ⟨#[]⟩,.slice none 0 0,.slice none 0 0,.int .i64 0,.int .i64 0,.string ⟨#[]⟩,.slice none 0 0,.slice none 0 0] 149)/\al.heap.size<=a)):=⟨_,_,⟨rfl,rfl⟩,(ak _ _).alloc (ai _) _,ax _ _,ai _⟩;dsimp only
    iterate 13 go_step
    obtain⟨B,a,⟨a8,a6⟩,C⟩:=a0.out;rw[<-a8,<-a6];clear a8 a6;have aR:Hid (B.there a 0 19):=dg C.out.2.1;have aG:=aj (aA.1 aQ.out).1;have a1:Hid (∃x,x=B.setCells a 0 EJ.toArray.toList/\Hid (bi (λaO=>aO=a) B x)):=⟨_,rfl,(dT a _ 0 B).1⟩;refine wpList_store_mid rfl 149 (.tmp 12) (.tmp 49) rfl a 0 EJ.toArray rfl rfl aR.out ig DG ?_;obtain⟨x,a9,an⟩:=a1.out;rw[<-a9];clear a9 aR a1 a0;have cY:=aj ((aB.out.trans (C.out.1.mono aB.out.size)).trans (an.out.below (by have:=aB.out.size;have:=C.out.1.size;omega) λb a4 e=>by have:=aB.out.size;have:=C.out.2.2;omega));have aa:=aj ((an.out.block j (aJ aG.out C.out.1.size) (λe=>by have:=aG.out;have:=C.out.2.2;omega)).trans ((C.out.1.block j aG.out).trans aQ.out));have c5:=aj Q.out.2;clear an aQ aB Q C;have E:=ab aa.out 0;have F:=ab aa.out 1;have G:=ab aa.out 2;have H:=ab aa.out 3;have I:=ab aa.out 4;have J:=ab aa.out 5;have M:=ab aa.out 6;have N:=ab aa.out 7;simp only[cG,cT]at E F G H I J M N;have aP:∀g,x.frozen? ⟨j,g,none⟩=false:=λg=>by simp[World.frozen?,aa.out]
    go_wp2_with fail;rw[A3];refine ap (v:=.tuple #[Lj,.int .i64 4]) (results_cell_tmp Tryz.results43 rfl (gj _ rfl (dg aa.out)) rfl) rfl ?_;exact ae ⟨4,rfl,jT _ cY.out ad.out,af (af ⟨rfl,rfl,hr,c5.out⟩)⟩
   ·have aB:=aj (aX.out.trans (Q.out.1.mono aX.out.size));have aQ:=aj ((Q.out.1.block j (aA.1 bn.out).1).trans bn.out);have a0:Hid (∃B a,(B=al.alloc (.cells #[.int .i64 0,.int .i64 0,.int .i64 0,.string ⟨#[]⟩,.slice none 0 0,.int .i64 0,.int .i64 0,.string ⟨#[]⟩,.slice none 0 0,.int .i64 0,.int .i64 0,.string ⟨#[]⟩,.slice none 0 0,.slice none 0 0,.int .i64 0,.int .i64 0,.string ⟨#[]⟩,.slice none 0 0,.slice none 0 0] 149)/\a=al.heap.size)/\Hid (ag al B/\B.heap[a]?=some (.cells #[.int .i64 0,.int .i64 0,.int .i64 0,.string ⟨#[]⟩,.slice none 0 0,.int .i64 0,.int .i64 0,.string ⟨#[]⟩,.slice none 0 0,.int .i64 0,.int .i64 0,.string ⟨#[]⟩,.slice none 0 0,.slice none 0 0,.int .i64 0,.int .i64 0,.string ⟨#[]⟩,.slice none 0 0,.slice none 0 0] 149)/\al.heap.size<=a)):=⟨_,_,⟨rfl,rfl⟩,(ak _ _).alloc (ai _) _,ax _ _,ai _⟩;dsimp only
    iterate 13 go_step
    obtain⟨B,a,⟨a8,a6⟩,C⟩:=a0.out;rw[<-a8,<-a6];clear a8 a6;have aR:Hid (B.there a 0 19):=dg C.out.2.1;have aG:=aj (aA.1 aQ.out).1;have a1:Hid (∃x,x=B.setCells a 0 (BT i y c (some ⟨l,0,none⟩) 4 r).toArray.toList/\Hid (x.rangeAt a 0 (BT i y c (some ⟨l,0,none⟩) 4 r)/\bi (λaO=>aO=a) B x)):=⟨_,rfl,World.rangeAt_setCells_same B a 0 _ aR.out,(dT a _ 0 B).1⟩;refine wpList_store_mid rfl 149 (.tmp 12) (.tmp 49) rfl a 0 (BT i y c (some ⟨l,0,none⟩) 4 r).toArray rfl rfl aR.out ig (DH i y c _ 4 r) ?_;obtain⟨x,a9,an⟩:=a1.out;rw[<-a9];clear a9 aR a1 a0;have bj:Hid (ag al x):=C.out.1.trans (an.out.2.below C.out.1.size λb a4 e=>by have:=C.out.2.2;omega);have bk:Hid (∀W:World,x.heap[a]?=W.heap[a]? ->W.rangeAt a 0 (BT i y c (some ⟨l,0,none⟩) 4 r)):=λW df g v a5=>by
     have:=an.out.1 g v a5;simp only[World.cell?,<-df]at this ⊢;exact this
    have bD:=aj C.out.2.2;have aY:Hid (a<x.heap.size):=aJ (aA.1 C.out.2.1).1 an.out.2.size;have cX:x.cell? ⟨a,0,none⟩=some (.int .i64 i):=an.out.1 0 _ rfl;clear C an;obtain⟨ma,aN,aL,⟨bp,bM⟩,c2⟩:=ch.out i y c l r al x Q.out.2.2.2.2 bj.out;have c0:=aj (⟨Q.out.2.1,Q.out.2.2.1⟩:_/\_);have dO:(i:Int)<=1000000:=by have:=Q.out.2.2.2.1;omega
    have dN:(0:Int)<=(i:Int):=by omega
    have dQ:IntKind.i64.wrap ((i:Int)+1)=(i:Int)+1:=by
     rw[IntKind.wrap_i64];omega
    clear Q ch;go_upto_region 9 with fail;have b3:Hid (ag x x.drew):=(ak _ _).drew;have R:x.drew.cell? ⟨A,7,none⟩=some (.slice ma aN aL)/\x.drew.cell? ⟨a,0,none⟩=some (.int .i64 i):=⟨bp,cX⟩;clear bp cX bM;refine wp_region_noPanic ?_;refine iZ (λw'=>w'.cell? ⟨A,7,none⟩=some (.slice ma aN aL)/\w'.cell? ⟨a,0,none⟩=some (.int .i64 i)) 13 (by kernel_rfl) ?_
    try simp only[eR]
    refine aM (i:=0) (v:= ?_) rfl (by kernel_rfl) (by kernel_rfl) (by kernel_rfl) (by kernel_rfl) (λ_ _ _ k=>k) rfl ?_ R ?_;rotate_left
    ·intro w' s
     try dsimp only at s
     go_simp
     try with_reducible rfl
    try simp only[Act.put]
    refine aM (i:=1) (v:= ?_) rfl (by kernel_rfl) (by kernel_rfl) (by kernel_rfl) (by kernel_rfl) (λ_ _ _ k=>k) rfl ?_ R ?_;rotate_left
    ·intro w' s
     try dsimp only at s
     go_simp
     try with_reducible rfl
    try simp only[Act.put]
    refine aM (i:=2) (v:= ?_) rfl (by kernel_rfl) (by kernel_rfl) (by kernel_rfl) (by kernel_rfl) (λ_ _ _ k=>k) rfl ?_ R ?_;rotate_left
    ·intro w' s
     try dsimp only at s
     go_simp
     try with_reducible rfl
    try simp only[Act.put]
    refine aM (i:=3) (v:= ?_) rfl (by kernel_rfl) (by kernel_rfl) (by kernel_rfl) (by kernel_rfl) (λ_ _ _ k=>k) rfl ?_ R ?_;rotate_left
    ·intro w' s
     try dsimp only at s
     go_simp
     try with_reducible rfl
    try simp only[Act.put]
    refine aM (i:=4) (v:= ?_) rfl (by kernel_rfl) (by kernel_rfl) (by kernel_rfl) (by kernel_rfl) (λ_ _ _ k=>k) rfl ?_ R ?_;rotate_left
    ·intro w' s
     try dsimp only at s
     go_simp
     try with_reducible rfl
    try simp only[Act.put]
    refine aM (i:=5) (v:= ?_) rfl (by kernel_rfl) (by kernel_rfl) (by kernel_rfl) (by kernel_rfl) (λ_ _ _ k=>k) rfl ?_ R ?_;rotate_left
    ·intro w' s
     try dsimp only at s
     go_simp
     try with_reducible rfl
    try simp only[Act.put]
    refine aM (i:=6) (v:= ?_) rfl (by kernel_rfl) (by kernel_rfl) (by kernel_rfl) (by kernel_rfl) (λ_ _ _ k=>k) rfl ?_ R ?_;rotate_left
    ·intro w' s
     try dsimp only at s
     go_simp
     try with_reducible rfl
    try simp only[Act.put]
    refine aM (i:=7) (v:= ?_) rfl (by kernel_rfl) (by kernel_rfl) (by kernel_rfl) (by kernel_rfl) (λ_ _ _ k=>k) rfl ?_ R ?_;rotate_left
    ·intro w' s
     try dsimp only at s
     go_simp
     try with_reducible rfl
    try simp only[Act.put]
    refine aM (i:=8) (v:= ?_) rfl (by kernel_rfl) (by kernel_rfl) (by kernel_rfl) (by kernel_rfl) (λ_ _ _ k=>k) rfl ?_ R ?_;rotate_left
    ·intro w' s
     try dsimp only at s
     go_simp
     try with_reducible rfl
    try simp only[Act.put]
    refine aM (i:=9) (v:= ?_) rfl (by kernel_rfl) (by kernel_rfl) (by kernel_rfl) (by kernel_rfl) (λ_ _ _ k=>k) rfl ?_ R ?_;rotate_left
    ·intro w' s
     try dsimp only at s
     go_simp
     try with_reducible rfl
    try simp only[Act.put]
    refine cP (i:=10) (by kernel_rfl) rfl rfl (λK aC=>?_) (by decide)
    go_simp
    refine(c2.out _ b3.out).mono ?_;rintro e be ⟨ba,bc,bb,rfl,aU⟩;have bz:Hid (bi az x be):=(aE b3.out az).trans aU.out.1 λ_ _ e=>e;have a3:be.cell? ⟨A,7,none⟩=some (.slice ma aN aL)/\be.cell? ⟨a,0,none⟩=some (.int .i64 i):=⟨aU.out.2.1,(bz.out.cell 0 aY.out (λe=>by have:=cj.out a e;have:=aB.out.size;have:=bD.out;omega)).trans R.2⟩;have bM:=aU.out.2.2.1;have ci:=aj aU.out.2.2.2;have cd:Hid (bi az x (be.setCell ⟨A,7,none⟩ (.slice ba bc bb))):=bz.out.trans (bt _ _ _ _) λb _ e=>by rw[e];exact c7.out
    refine aC.out _ _ (λ_=>a3) (λ_=>?_);clear aC K aU R
    try simp only[Act.put,bP,da,cZ]
    refine cP (i:=11) (by kernel_rfl) rfl rfl (λK aC=>?_) (by decide)
    go_simp
    refine aC.out _ _ (λ_=>a3) (λ_=>?_);clear aC K
    try simp only[Act.put,bP,da,cZ]
    refine aM (i:=12) (v:= ?_) rfl (by kernel_rfl) (by kernel_rfl) (by kernel_rfl) (by kernel_rfl) (λ_ _ _ k=>k) rfl ?_ a3 ?_;rotate_left
    ·intro w' s
     try dsimp only at s
     go_simp
     try with_reducible rfl
    try simp only[Act.put,bP]
    have bp:=a3.1;refine iY (by kernel_rfl) rfl rfl (by kernel_rfl) (λK aC=>?_)
    go_simp
    refine aC.out _ _ (NoPanic.normal ?_);clear aC K bp bM a3
    try simp only[Act.put,bP,da,cZ]
    have cq:Hid (∃X,X=be.setCell ⟨A,7,none⟩ (.slice ba bc bb)/\Hid (bG i y c l r X/\bi az x X)):=⟨_,rfl,ci.out,cd.out⟩;obtain⟨X,cU,aV⟩:=cq.out;rw[<-cU];clear cU cq ci bz cd;have bE:=aj aV.out.2.size;have bl:Hid (∀b,w.heap.size<=b->¬az b):=λb a4 e=>by have:=cj.out b e;omega
    have cp:=aj aB.out.size;have bC:=aj ((aV.out.2.block j (aJ aG.out bj.out.size) (bl.out j (by rw[ad.out];exact ai _))).trans ((bj.out.block j aG.out).trans aQ.out));have bo:=aj (aV.out.2.block a aY.out (bl.out a (by have:=bD.out;have:=cp.out;omega)));have b4:=aj (bk.out X bo.out.symm);have dE:X.cell? ⟨a,18,none⟩=some (.slice (some ⟨l,0,none⟩) 4 r):=b4.out 18 _ rfl;have cs:Hid (∃u m,(u=X.alloc (.cells #[.slice (some ⟨l,0,none⟩) 4 r,.int .i64 self,.int .i64 next,.slice none 0 0,.slice none 0 0,.slice none 0 0,.bool false] 155)/\m=X.heap.size)/\Hid (ag X u/\u.heap[m]?=some (.cells #[.slice (some ⟨l,0,none⟩) 4 r,.int .i64 self,.int .i64 next,.slice none 0 0,.slice none 0 0,.slice none 0 0,.bool false] 155)/\X.heap.size<=m)):=⟨_,_,⟨rfl,rfl⟩,(ak _ _).alloc (ai _) _,ax _ _,ai _⟩;go_upto_region 11 with fail;obtain⟨u,m,⟨cV,aI⟩,am⟩:=cs.out;rw[<-cV,<-aI];clear cV aI cs dE;have O:=aj (bk.out u (((am.out.1.block a (aJ aY.out bE.out)).trans bo.out).symm));have dq:u.cell? ⟨a,5,none⟩=some (.int .i64 c.1.1.1.1):=O.out 5 _ rfl;have dr:u.cell? ⟨a,6,none⟩=some (.int .i64 c.1.1.1.2.1):=O.out 6 _ rfl;have dv:u.cell? ⟨a,7,none⟩=some (.string c.1.1.1.2.2):=O.out 7 _ rfl;have dw:u.cell? ⟨a,8,none⟩=some (.slice c.1.1.2.1.1 c.1.1.2.2.length c.1.1.2.1.2):=O.out 8 _ rfl;have dx:u.cell? ⟨a,9,none⟩=some (.int .i64 c.1.2.1.1.1):=O.out 9 _ rfl;have dy:u.cell? ⟨a,10,none⟩=some (.int .i64 c.1.2.1.1.2.1):=O.out 10 _ rfl;have dz:u.cell? ⟨a,11,none⟩=some (.string c.1.2.1.1.2.2):=O.out 11 _ rfl;have dA:u.cell? ⟨a,12,none⟩=some (.slice c.1.2.1.2.1.1 c.1.2.1.2.2.length c.1.2.1.2.1.2):=O.out 12 _ rfl;have dB:u.cell? ⟨a,13,none⟩=some (.slice c.2.1.1 c.2.2.length c.2.1.2):=O.out 13 _ rfl;have dC:u.cell? ⟨a,14,none⟩=some (.int .i64 c.1.2.2.1.1):=O.out 14 _ rfl;have ds:u.cell? ⟨a,15,none⟩=some (.int .i64 c.1.2.2.1.2.1):=O.out 15 _ rfl;have dt:u.cell? ⟨a,16,none⟩=some (.string c.1.2.2.1.2.2):=O.out 16 _ rfl;have du:u.cell? ⟨a,17,none⟩=some (.slice c.1.2.2.2.1.1 c.1.2.2.2.2.length c.1.2.2.2.1.2):=O.out 17 _ rfl;have cb:=aj (cc.out i y c l r X u m aV.out.1 am.out.1 am.out.2.2 am.out.2.1);go_wp2_with fail;refine cb.out.mono ?_;rintro e aD ⟨f,rfl,aW⟩;clear dq dr dv dw dx dy dz dA dB dC ds dt du cb;have dc:=aj aW.out.1.size;have db:=aj am.out.1.size;have ao:Hid (j≠m/\j≠l/\a≠m/\a≠l/\j<u.heap.size/\a<u.heap.size/\w.heap.size<=j/\w.heap.size<=a):=by
     have cF:=ad.out;have cH:=c4.out;have de:=c0.out;have dH:=bD.out;have dI:=aY.out;have dJ:=bE.out;have dK:=am.out.2.2;have dL:=db.out;have dM:=aG.out;have dF:=bj.out.size;have dG:=cp.out;exact⟨by omega,by omega,by omega,by omega,by omega,by omega,by omega,by omega⟩
    have ck:=aj ((aW.out.1.block j ao.out.2.2.2.2.1 (λe=>by
     rcases e with e|e|e
     ·exact bl.out j ao.out.2.2.2.2.2.2.1 e
     ·exact ao.out.1 e
     ·exact ao.out.2.1 e)).trans ((am.out.1.block j (aA.1 bC.out).1).trans bC.out))
    have b5:=aj (bk.out aD (((aW.out.1.block a ao.out.2.2.2.2.2.1 (λe=>by
     rcases e with e|e|e
     ·exact bl.out a ao.out.2.2.2.2.2.2.2 e
     ·exact ao.out.2.2.1 e
     ·exact ao.out.2.2.2.1 e)).trans ((am.out.1.block a (aJ aY.out bE.out)).trans bo.out)).symm))
    have cn:=aj aW.out.2;clear aW O b4 bC bo aV am bk cc;have ct:Hid (∃t h,(t=aD.alloc (.cells #[.int .i64 0,.int .i64 0,.string ⟨#[]⟩,.slice none 0 0,.int .i64 f,.slice none 0 0,.slice none 0 0,.slice none 0 0] 112)/\h=aD.heap.size)/\Hid (ag aD t/\t.heap[h]?=some (.cells #[.int .i64 0,.int .i64 0,.string ⟨#[]⟩,.slice none 0 0,.int .i64 f,.slice none 0 0,.slice none 0 0,.slice none 0 0] 112)/\aD.heap.size<=h)):=⟨_,_,⟨rfl,rfl⟩,(ak _ _).alloc (ai _) _,ax _ _,ai _⟩;go_upto_region 12 with fail;obtain⟨t,h,⟨cQ,cN⟩,z⟩:=ct.out;rw[<-cQ,<-cN];clear cQ cN ct;have bv:t.cell? ⟨h,4,none⟩=some (.int .i64 f):=ab z.out.2.1 4;have bm:=aj ((z.out.1.block j (aA.1 ck.out).1).trans ck.out);have aF:Hid (j≠h/\a≠h/\a<aD.heap.size):=by
     have cF:=ao.out;have cH:=dc.out;have de:=z.out.2.2;exact⟨by omega,by omega,by omega⟩
    by_cases aK:f=0\/f=1
    ·by_cases br:f=0
     case' pos=>have cJ:(f==0)=true:=b9.2 br
     case' neg=>
      have cJ:(f==0)=false:=f9.2 br;have dh:(f==1)=true:=b9.2 (aK.resolve_left br)
     all_goals
      have aZ:=aj bm.out;have P:=aj z.out.2.1;obtain⟨v0,v1,v2,cW,sa,sl,sc,pa,pl,pc,ka,kl,kc,aI,cO⟩:=cn.out.1 aK;have bF:=aj cO;have bx:=aj ((z.out.1.block m (aA.1 aI).1).trans aI);have di:m≠h:=by
       have cF:=(aA.1 aI).1;have cH:=z.out.2.2;omega
      have dP:h≠m:=λe=>di e.symm;clear aI cO bm aK br;have cz:t.cell? ⟨m,3,none⟩=some (.slice sa sl sc):=ab bx.out 3;have cA:t.cell? ⟨m,4,none⟩=some (.slice pa pl pc):=ab bx.out 4;have cB:t.cell? ⟨m,5,none⟩=some (.slice ka kl kc):=ab bx.out 5;have cC:=ab P.out 5;have cD:=ab P.out 6;have cE:=ab P.out 7;simp only[cG,cT]at cC cD cE;have dd:∀g,t.frozen? ⟨h,g,none⟩=false:=λg=>by simp[World.frozen?,P.out]
      go_upto_region 13 with fail;go_region_held3 (λW=>W.cell? ⟨m,3,none⟩=some (.slice sa sl sc)/\W.cell? ⟨m,4,none⟩=some (.slice pa pl pc)/\W.cell? ⟨m,5,none⟩=some (.slice ka kl kc)) (first|(go_keep;done)|exact⟨cz,cA,cB⟩) ((fail));have cu:Hid (∃S,S=((t.setCell ⟨h,5,none⟩ (.slice sa sl sc)).setCell ⟨h,6,none⟩ (.slice pa pl pc)).setCell ⟨h,7,none⟩ (.slice ka kl kc)/\Hid (bi (λb=>b=h) t S/\S.heap[h]?=some (.cells #[.int .i64 0,.int .i64 0,.string ⟨#[]⟩,.slice none 0 0,.int .i64 f,.slice sa sl sc,.slice pa pl pc,.slice ka kl kc] 112))):=⟨_,rfl,bi.trans (bi.trans (bt t h 5 _) (bt _ h 6 _) λ_ _ e=>e) (bt _ h 7 _) λ_ _ e=>e,FX P.out _ _ _⟩;obtain⟨S,cR,Y⟩:=cu.out;rw[<-cR];clear cR cu cz cA cB cC cD cE dd bv;have cl:=aj ((Y.out.1.block j (aA.1 aZ.out).1 aF.out.1).trans aZ.out);go_upto_region 14 with fail;have U:=aj (λ(g:Nat)(v:Value)(a5:(BT i y c (some ⟨l,0,none⟩) 4 r)[g]?=some v)=>(Y.out.1.cell (0+g) (aJ aF.out.2.2 z.out.1.size) aF.out.2.1).trans ((z.out.1.cell (p:=⟨a,0+g,none⟩) aF.out.2.2).trans (b5.out g v a5)));have bS:S.cell? ⟨a,1,none⟩=some (.int .i64 y.1.1):=U.out 1 _ rfl;have bU:S.cell? ⟨a,2,none⟩=some (.int .i64 y.1.2.1):=U.out 2 _ rfl;have bV:S.cell? ⟨a,3,none⟩=some (.string y.1.2.2):=U.out 3 _ rfl;have bW:S.cell? ⟨a,4,none⟩=some (.slice y.2.1.1 y.2.2.length y.2.1.2):=U.out 4 _ rfl;have aq:=ab Y.out.2 0;have ar:=ab Y.out.2 1;have au:=ab Y.out.2 2;have av:=ab Y.out.2 3;simp only[cG,cT]at aq ar au av;have b1:∀g,S.frozen? ⟨h,g,none⟩=false:=λg=>by simp[World.frozen?,Y.out.2]
      have a2:Hid (∃D,D=(((S.setCell ⟨h,0,none⟩ (.int .i64 y.1.1)).setCell ⟨h,1,none⟩ (.int .i64 y.1.2.1)).setCell ⟨h,2,none⟩ (.string y.1.2.2)).setCell ⟨h,3,none⟩ (.slice y.2.1.1 y.2.2.length y.2.1.2)/\Hid (bi (λb=>b=h) S D/\D.heap[h]?=some (.cells #[.int .i64 y.1.1,.int .i64 y.1.2.1,.string y.1.2.2,.slice y.2.1.1 y.2.2.length y.2.1.2,.int .i64 f,.slice sa sl sc,.slice pa pl pc,.slice ka kl kc] 112))):=⟨_,rfl,nt S h 0 _ _ _ _,Eg Y.out.2 _ _ _ _⟩;go_upto_region 15 with fail;obtain⟨D,a7,o⟩:=a2.out;rw[<-a7];clear a7 a2 bS bU bV bW aq ar au av b1 U;have q:=aj ((o.out.1.block j (aA.1 cl.out).1 aF.out.1).trans cl.out);have aq:=ab o.out.2 0;have ar:=ab o.out.2 1;have au:=ab o.out.2 2;have av:=ab o.out.2 3;have bX:=ab o.out.2 4;have bY:=ab o.out.2 5;have bZ:=ab o.out.2 6;have b0:=ab o.out.2 7;have E:=ab q.out 0;have F:=ab q.out 1;have G:=ab q.out 2;have H:=ab q.out 3;have I:=ab q.out 4;have J:=ab q.out 5;have M:=ab q.out 6;have N:=ab q.out 7;simp only[cG,cT]at aq ar au av bX bY bZ b0 E F G H I J M N;have aP:∀g,D.frozen? ⟨j,g,none⟩=false:=λg=>by simp[World.frozen?,q.out]
      go_wp2_with fail;rw[A3];refine ap (v:=.tuple #[M2 y.1.1 y.1.2.1 y.1.2.2 y.2.1.1 y.2.2.length y.2.1.2 f sa sl sc pa pl pc ka kl kc,.int .i64 0]) (results_cell_tmp Tryz.results43 rfl (Ap _ rfl (dg q.out)) rfl) rfl ?_;refine af ⟨i,y,c,f,sa,sl,sc,pa,pl,pc,ka,kl,kc,rfl,rfl,by first|rfl|exact hr,aD,D,bF.out,((z.out.1.trans (Y.out.1.below z.out.1.size λb a4 e=>by have:=z.out.2.2;omega)).trans (o.out.1.below (aw z.out.1.size Y.out.1.size) λb a4 e=>by have:=z.out.2.2;omega)),?_⟩;rw[<-ad.out];exact(dT j _ 0 D).1.trans (aE ((ak _ _).drew) _) λ_ _ e=>e
    ·have bF:=aj (cn.out.2 aK);have cJ:(f==0)=false:=f9.2 λe=>aK (ae e);have dh:(f==1)=false:=f9.2 λe=>aK (af e);have aZ:=aj bm.out;have P:=aj z.out.2.1;clear aK bv bm;have bv:t.cell? ⟨h,4,none⟩=some (.int .i64 f):=ab P.out 4;go_upto_region 14 with fail;clear bv;have U:=aj (λg v a5=>(z.out.1.cell (p:=⟨a,0+g,none⟩) aF.out.2.2).trans (b5.out g v a5));have bS:t.cell? ⟨a,1,none⟩=some (.int .i64 y.1.1):=U.out 1 _ rfl;have bU:t.cell? ⟨a,2,none⟩=some (.int .i64 y.1.2.1):=U.out 2 _ rfl;have bV:t.cell? ⟨a,3,none⟩=some (.string y.1.2.2):=U.out 3 _ rfl;have bW:t.cell? ⟨a,4,none⟩=some (.slice y.2.1.1 y.2.2.length y.2.1.2):=U.out 4 _ rfl;have aq:=ab P.out 0;have ar:=ab P.out 1;have au:=ab P.out 2;have av:=ab P.out 3;simp only[cG,cT]at aq ar au av;have b1:∀g,t.frozen? ⟨h,g,none⟩=false:=λg=>by simp[World.frozen?,P.out]
     have a2:Hid (∃D,D=(((t.setCell ⟨h,0,none⟩ (.int .i64 y.1.1)).setCell ⟨h,1,none⟩ (.int .i64 y.1.2.1)).setCell ⟨h,2,none⟩ (.string y.1.2.2)).setCell ⟨h,3,none⟩ (.slice y.2.1.1 y.2.2.length y.2.1.2)/\Hid (bi (λb=>b=h) t D/\D.heap[h]?=some (.cells #[.int .i64 y.1.1,.int .i64 y.1.2.1,.string y.1.2.2,.slice y.2.1.1 y.2.2.length y.2.1.2,.int .i64 f,.slice none 0 0,.slice none 0 0,.slice none 0 0] 112))):=⟨_,rfl,nt t h 0 _ _ _ _,Eg P.out _ _ _ _⟩;go_upto_region 15 with fail;obtain⟨D,a7,o⟩:=a2.out;rw[<-a7];clear a7 a2 bS bU bV bW aq ar au av b1 U;have q:=aj ((o.out.1.block j (aA.1 aZ.out).1 aF.out.1).trans aZ.out);have aq:=ab o.out.2 0;have ar:=ab o.out.2 1;have au:=ab o.out.2 2;have av:=ab o.out.2 3;have bX:=ab o.out.2 4;have bY:=ab o.out.2 5;have bZ:=ab o.out.2 6;have b0:=ab o.out.2 7;have E:=ab q.out 0;have F:=ab q.out 1;have G:=ab q.out 2;have H:=ab q.out 3;have I:=ab q.out 4;have J:=ab q.out 5;have M:=ab q.out 6;have N:=ab q.out 7;simp only[cG,cT]at aq ar au av bX bY bZ b0 E F G H I J M N;have aP:∀g,D.frozen? ⟨j,g,none⟩=false:=λg=>by simp[World.frozen?,q.out]
     go_wp2_with fail;rw[A3];refine ap (v:=.tuple #[M2 y.1.1 y.1.2.1 y.1.2.2 y.2.1.1 y.2.2.length y.2.1.2 f none 0 0 none 0 0 none 0 0,.int .i64 0]) (results_cell_tmp Tryz.results43 rfl (gj _ rfl (dg q.out)) rfl) rfl ?_;refine af ⟨i,y,c,f,none,0,0,none,0,0,none,0,0,rfl,rfl,by first|rfl|exact hr,aD,D,bF.out,(z.out.1.trans (o.out.1.below z.out.1.size λb a4 e=>by have:=z.out.2.2;omega)),?_⟩;rw[<-ad.out];exact(dT j _ 0 D).1
end Go.Proofs.YtckamaoibonjcaaGreat
