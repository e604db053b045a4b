/- What is proved here: the walk of proc's Step, over what its calls leave. No condition but that all lies in memory. -/
import Derived.Test.YtmmahddlcldmiaaGreatDoorT19
namespace Go.Proofs.YtmmahddlcldmiaaGreatDoor
open Go.RowKit Go.Proofs.Tryz
set_option maxRecDepth 100000
set_option maxHeartbeats 8000000
def Pd(y0 y1:Int)(y2:ByteArray)(ya:Option Addr)(yl yc:Nat)(f:Int)(sa:Option Addr)(sl sc:Nat)(pa:Option Addr)(pl pc:Nat)(ka:Option Addr)(kl kc:Nat):Value:=.agg #[ab y0,ab y1,af y2,ae ya yl yc,ab f,ae sa sl sc,ae pa pl pc,ae ka kl kc]
def Nq:Value:=.agg #[ab 0,ab 0,af ⟨#[]⟩,ae none 0 0,ab 0,ae none 0 0,ae none 0 0,ae none 0 0]
def Qr{n:Nat}(d:Int)(rng:Bool)(j:Prop)(T:Nat->Tc->Cl (n+1)->Int->Option Addr->Nat->Nat->Option Addr->Nat->Nat->Option Addr->Nat->Nat->World->Prop)(w:World)(e:Ending)(w':World):Prop:=
 (∃g,e=.returned (.tuple #[Nq,ab g])/\Hid (aj w w'/\((g=d/\d≠0)\/(g=1/\d=0/\rng=false)\/(g=4/\d=0/\rng=true/\j))))\/
  ∃(k:Nat)(a:Tc)(c:Cl (n+1))(f:Int)(sa:Option Addr)(sl sc:Nat)(pa:Option Addr)(pl pc:Nat)(ka:Option Addr)(kl kc:Nat),e=.returned (.tuple #[Pd a.1.1 a.1.2.1 a.1.2.2 a.2.1.1 a.2.2.length a.2.1.2 f sa sl sc pa pl pc ka kl kc,ab 0])/\Hid (d=0/\rng=true/\∃h i,T k a c f sa sl sc pa pl pc ka kl kc h/\aj h i/\br (λb=>b=w.heap.size) i w')
theorem Ch(w:World)(q:Nat)(v0 v1 v2 v3 a b c d:Value):(((((((w.setCell ⟨q,0,none⟩ v0).setCell ⟨q,1,none⟩ v1).setCell ⟨q,2,none⟩ v2).setCell ⟨q,3,none⟩ v3).setCell ⟨q,4,none⟩ a).setCell ⟨q,5,none⟩ b).setCell ⟨q,6,none⟩ c).setCell ⟨q,7,none⟩ d=w.setCells q 0 [v0,v1,v2,v3,a,b,c,d]:=rfl
theorem FB{w:World}{q:Nat}{f g h i a b c d:Value}{t:TypeId}(e:w.heap[q]?=some (.cells #[f,g,h,i,a,b,c,d] t))(v0 v1 v2 v3:Value):((((w.setCell ⟨q,0,none⟩ v0).setCell ⟨q,1,none⟩ v1).setCell ⟨q,2,none⟩ v2).setCell ⟨q,3,none⟩ v3).heap[q]?=some (.cells #[v0,v1,v2,v3,a,b,c,d] t):=by
 unfold World.setCell;simp[bN,e]
theorem Hx{w:World}{q:Nat}{v0 v1 v2 v3 a f g h:Value}{t:TypeId}(e:w.heap[q]?=some (.cells #[v0,v1,v2,v3,a,f,g,h] t))(b c d:Value):(((w.setCell ⟨q,5,none⟩ b).setCell ⟨q,6,none⟩ c).setCell ⟨q,7,none⟩ d).heap[q]?=some (.cells #[v0,v1,v2,v3,a,b,c,d] t):=by
 unfold World.setCell;simp[bN,e]
theorem xA:(Tryz.prog.info? 137).map (·.size)=some 8:=by kernel_rfl
theorem gH{W:World}{q:Nat}(vs:List Value)(a:vs.length=8)(b:W.there q 0 8):(loadVar 137 ⟨q,0,none⟩).run Tryz.prog (W.setCells q 0 vs)=.ok (.agg vs.toArray) (W.setCells q 0 vs):=
 run_loadVar_mid (P:=Tryz.prog) (W.setCells q 0 vs) q 0 137 vs _ (World.rangeAt_setCells_same W q 0 vs (by rw[a];exact b)) underlying137 rfl (by rw[a];exact xA)
theorem BC{W:World}{q:Nat}(vs:List Value)(a:vs.length=8)(b:W.there q 0 8):(loadVar 137 ⟨q,0,none⟩).run Tryz.prog (W.setCells q 0 vs).drew=.ok (.agg vs.toArray) (W.setCells q 0 vs).drew:=
 run_loadVar_mid (P:=Tryz.prog) (W.setCells q 0 vs).drew q 0 137 vs _ ((World.rangeAt_drew _ _ _ _).2 (World.rangeAt_setCells_same W q 0 vs (by rw[a];exact b))) underlying137 rfl (by rw[a];exact xA)
theorem kD{w W:World}{q:Nat}(vs:List Value)(a:aj w W)(d:q=w.heap.size):aj w (W.setCells q 0 vs):=a.trans ((eq q vs 0 W).1.below a.size λb c e=>by omega)
theorem Ii{n:Nat}(z:Nat)(name:ByteArray)(bR:Option Addr)(L bS:Nat)(self next:Int)(aK:Int)(cy:Option Addr)(cx cz:Nat)(w:World)(cw:Prop)(K bI:Nat->Tc->Cl (n+1)->Nat->Nat->World->Prop)(T:Nat->Tc->Cl (n+1)->Int->Option Addr->Nat->Nat->Option Addr->Nat->Nat->Option Addr->Nat->Nat->World->Prop)(rng:Bool)(ay:Nat->Prop)(df:z<w.heap.size)(cj:Hid (∀b,ay b->b<w.heap.size))(c4:Hid (ay z))(aW:Hid (rng=(decide (1<=self) && decide (self<=99) && decide (1<=next) && decide (next<=92))))(cn:Hid (∀W,aj w W->am 5 #[ae bR L bS] W λe w'=>∃y0 y1 y2 ya yl yc,e=.returned (.tuple #[.agg #[ab y0,ab y1,af y2,ae ya yl yc],ab aK])/\Hid (aj W w')))(c3:Hid (w.cell? ⟨z,0,none⟩=some (af name)))(b9:Hid (∀W,aK=0->aj w W->am 97 #[ae bR L bS,af name] W λe w'=>e=.returned (ae cy cx cz)/\Hid (aj W w')))(b7:Hid (∀W,aK=0->rng=true->aj w W->am 96 #[aB z,ae cy cx cz] W λe w'=>(e=.returned (.tuple #[.agg Ge.toArray,.bool false])/\Hid (aj W w'/\cw))\/∃(i:Nat)(y:Tc)(c:Cl (n+1))(l r:Nat),e=.returned (.tuple #[.agg (C5 i y c (some ⟨l,0,none⟩) 4 r).toArray,.bool true])/\Hid (aj W w'/\W.heap.size<=l/\l<w'.heap.size/\i<=1000000/\K i y c l r w')))(ch:Hid (∀i y c l r aV W,K i y c l r aV->aj aV W->∃ma aO aN,(W.cell? ⟨z,7,none⟩=some (ae ma aO aN)/\W.frozen? ⟨z,7,none⟩=false)/\Hid (∀bJ,aj W bJ->am 98 #[ae ma aO aN,ab i,ab ((i:Int)+1)] bJ λe w'=>∃bd bf be,e=.returned (ae bd bf be)/\Hid (br ay bJ w'/\w'.cell? ⟨z,7,none⟩=some (ae ma aO aN)/\w'.frozen? ⟨z,7,none⟩=false/\bI i y c l r (w'.setCell ⟨z,7,none⟩ (ae bd bf be))))))(cc:Hid (∀i y c l r aV W m,bI i y c l r aV->aj aV W->aV.heap.size<=m->W.heap[m]?=some (.cells #[ae (some ⟨l,0,none⟩) 4 r,ab self,ab next,ae none 0 0,ae none 0 0,ae none 0 0,.bool false] 189)->am 99 #[aB z,Qa c,aB m] W λe w'=>∃f,e=.returned (ab f)/\Hid (br (λb=>ay b\/b=m\/b=l) W w'/\(f=0\/f=1->∃v0 v1 v2 cS sa sl sc pa pl pc ka kl kc,w'.heap[m]?=some (.cells #[v0,v1,v2,ae sa sl sc,ae pa pl pc,ae ka kl kc,cS] 189)/\T i y c f sa sl sc pa pl pc ka kl kc w')/\(¬(f=0\/f=1)->T i y c f none 0 0 none 0 0 none 0 0 w')))):am 67 #[aB z,ae bR L bS,ab self,ab next] w (Qr aK rng cw T w):=by
 have cp:Hid (∃bg aP bw,(bg=w.alloc bw/\aP=w.heap.size/\bw=.cells #[ab 0,ab 0,af ⟨#[]⟩,ae none 0 0,ab 0,ae none 0 0,ae none 0 0,ae none 0 0] 137)/\aj w bg/\bg.heap[aP]?=some bw/\w.heap.size<bg.heap.size/\Hid (aP=w.heap.size)):=⟨_,_,_,⟨rfl,rfl,rfl⟩,(ap _ _).alloc (ak _) _,aE _ _,by simp,rfl⟩;go_enter func67,ntmps67;go_upto_region 1 with fail;obtain⟨bg,j,bw,⟨bQ,cJ,cI⟩,cF,bP,cH,aa⟩:=cp.out;rw[cI]at bQ bP;rw[<-bQ,<-cJ];have bk:=aq cF;have bB:=aq bP;have ce:=aq cH;clear bQ cJ cI cF bP cH cp;go_wp2_with fail;refine(cn _ bk).mono ?_;rintro e b3 ⟨y0,y1,y2,ya,yl,yc,rfl,bi⟩;have bx:=aq (bk.trans (bi.mono bk.size));have bC:Hid (b3.heap[j]?=_):=(bi.block j (aF.1 bB).1).trans bB;have cf:=aq (aR ce bi.size);clear bi bB bk ce cn;have cs:Hid (∃U,U=b3.alloc (.cells #[ab y0,ab y1,af y2,ae ya yl yc] 28)/\aj b3 U):=⟨_,rfl,(ap _ _).alloc (ak _) _⟩;go_upto_region 2 with fail;obtain⟨U,cO,bv⟩:=cs.out;rw[<-cO];have Y:=aq (bx.trans (bv.mono bx.size));have d:Hid (U.heap[j]?=_):=(bv.block j (aF.1 bC).1).trans bC;have cg:=aq (aR cf bv.size);clear cO bv cs bC bx cf;by_cases bt:aK=0;rotate_left
 ·have c0:=aq bt;have D:=ag d 0;have E:=ag d 1;have F:=ag d 2;have G:=ag d 3;have H:=ag d 4;have I:=ag d 5;have J:=ag d 6;have M:=ag d 7;simp only[cP,cZ]at D E F G H I J M;have aQ:∀g,U.frozen? ⟨j,g,none⟩=false:=λg=>by simp[World.frozen?,d.out]
  go_wp2_with fail;rw[Ch];refine av (v:=.tuple #[Nq,ab aK]) (results_cell_tmp results67 rfl (gH _ rfl (dv d)) rfl) rfl ?_;exact ah ⟨aK,rfl,kD _ Y aa,ah ⟨rfl,c0⟩⟩
 ·have ca:=aq λW=>b9 W bt;have b8:=aq λW=>b7 W bt;clear b9 b7;subst bt;cases hr:rng
  ·rw[hr]at aW;have c5:=aq aW.out;clear aW;by_cases dg:self<1
   ·have D:=ag d 0;have E:=ag d 1;have F:=ag d 2;have G:=ag d 3;have H:=ag d 4;have I:=ag d 5;have J:=ag d 6;have M:=ag d 7;simp only[cP,cZ]at D E F G H I J M;have aQ:∀g,U.frozen? ⟨j,g,none⟩=false:=λg=>by simp[World.frozen?,d.out]
    go_wp2_with fail;rw[Ch];refine av (v:=.tuple #[Nq,ab 1]) (results_cell_tmp results67 rfl (gH _ rfl (dv d)) rfl) rfl ?_;exact ah ⟨1,rfl,kD _ Y aa,ai (ah ⟨rfl,rfl,by first|rfl|exact hr⟩)⟩
   ·by_cases dh:99<self
    ·have D:=ag d 0;have E:=ag d 1;have F:=ag d 2;have G:=ag d 3;have H:=ag d 4;have I:=ag d 5;have J:=ag d 6;have M:=ag d 7;simp only[cP,cZ]at D E F G H I J M;have aQ:∀g,U.frozen? ⟨j,g,none⟩=false:=λg=>by simp[World.frozen?,d.out]
     go_wp2_with fail;rw[Ch];refine av (v:=.tuple #[Nq,ab 1]) (results_cell_tmp results67 rfl (gH _ rfl (dv d)) rfl) rfl ?_;exact ah ⟨1,rfl,kD _ Y aa,ai (ah ⟨rfl,rfl,by first|rfl|exact hr⟩)⟩
    ·by_cases dk:next<1
     ·have D:=ag d 0;have E:=ag d 1;have F:=ag d 2;have G:=ag d 3;have H:=ag d 4;have I:=ag d 5;have J:=ag d 6;have M:=ag d 7;simp only[cP,cZ]at D E F G H I J M;have aQ:∀g,U.frozen? ⟨j,g,none⟩=false:=λg=>by simp[World.frozen?,d.out]
      go_wp2_with fail;rw[Ch];refine av (v:=.tuple #[Nq,ab 1]) (results_cell_tmp results67 rfl (gH _ rfl (dv d)) rfl) rfl ?_;exact ah ⟨1,rfl,kD _ Y aa,ai (ah ⟨rfl,rfl,by first|rfl|exact hr⟩)⟩
     ·by_cases dl:92<next
      ·have D:=ag d 0;have E:=ag d 1;have F:=ag d 2;have G:=ag d 3;have H:=ag d 4;have I:=ag d 5;have J:=ag d 6;have M:=ag d 7;simp only[cP,cZ]at D E F G H I J M;have aQ:∀g,U.frozen? ⟨j,g,none⟩=false:=λg=>by simp[World.frozen?,d.out]
       go_wp2_with fail;rw[Ch];refine av (v:=.tuple #[Nq,ab 1]) (results_cell_tmp results67 rfl (gH _ rfl (dv d)) rfl) rfl ?_;exact ah ⟨1,rfl,kD _ Y aa,ai (ah ⟨rfl,rfl,by first|rfl|exact hr⟩)⟩
      ·exfalso;have k:=c5.out;have bK:1<=self:=by omega
       have bL:self<=99:=by omega
       have bM:1<=next:=by omega
       have bN:next<=92:=by omega
       simp[bK,bL,bM,bN]at k
  ·rw[hr]at aW;have c6:=aq aW.out;have ⟨bK,bL,bM,bN⟩:1<=self/\self<=99/\1<=next/\next<=92:=by
    have k:=c6.out;simp only[Bool.true_eq,aA,bO]at k;exact⟨k.1.1.1,k.1.1.2,k.1.2,k.2⟩
   have dg:¬self<1:=by omega
   have dh:¬99<self:=by omega
   have dk:¬next<1:=by omega
   have dl:¬92<next:=by omega
   have de:U.cell? ⟨z,0,none⟩=some (af name):=(Y.cell (p:=⟨z,0,none⟩) df).trans c3;have cX:=aq λW=>b8 W hr;clear bK bL bM bN aW b8;go_wp2_with fail;refine(ca U Y).mono ?_;rintro e dB ⟨rfl,bj⟩;have a0:=aq (Y.trans (bj.mono Y.size));have bp:=aq ((bj.block j (aF.1 d).1).trans d);have c1:=aq (aR cg bj.size);clear bj ca d Y cg de;go_wp2_with fail;refine(cX dB a0).mono ?_;rintro e ad (⟨rfl,P⟩|⟨i,y,c,l,r,rfl,P⟩)
   ·have aC:=aq (a0.trans (P.1.mono a0.size));have aS:=aq ((P.1.block j (aF.1 bp).1).trans bp);have a3:Hid (∃A a,(A=ad.alloc (.cells #[ab 0,ab 0,ab 0,af ⟨#[]⟩,ae none 0 0,ab 0,ab 0,af ⟨#[]⟩,ae none 0 0,ab 0,ab 0,af ⟨#[]⟩,ae none 0 0,ae none 0 0,ab 0,ab 0,af ⟨#[]⟩,ae none 0 0,ae none 0 0] 183)/\a=ad.heap.size)/\Hid (aj ad A/\A.heap[a]?=some (.cells #[ab 0,ab 0,ab 0,af ⟨#[]⟩,ae none 0 0,ab 0,ab 0,af ⟨#[]⟩,ae none 0 0,ab 0,ab 0,af ⟨#[]⟩,ae none 0 0,ae none 0 0,ab 0,ab 0,af ⟨#[]⟩,ae none 0 0,ae none 0 0] 183)/\ad.heap.size<=a)):=⟨_,_,⟨rfl,rfl⟩,(ap _ _).alloc (ak _) _,aE _ _,ak _⟩;dsimp only
    iterate 13 go_step
    obtain⟨A,a,⟨bb,a9⟩,B⟩:=a3.out;rw[<-bb,<-a9];clear bb a9;have aU:Hid (A.there a 0 19):=dv B.2.1;have aI:=aq (aF.1 aS).1;have a4:Hid (∃wf,wf=A.setCells a 0 Ge.toArray.toList/\Hid (br (λaP=>aP=a) A wf)):=⟨_,rfl,(eq a _ 0 A).1⟩;refine wpList_store_mid rfl 183 (.tmp 12) (.tmp 49) rfl a 0 Ge.toArray rfl rfl aU iJ EU ?_;obtain⟨wf,bc,an⟩:=a4.out;rw[<-bc];clear bc aU a4 a3;have cV:=aq ((aC.trans (B.1.mono aC.size)).trans (an.below (by have:=aC.size;have:=B.1.size;omega) λb a7 e=>by have:=aC.size;have:=B.2.2;omega));have Z:=aq ((an.block j (aR aI B.1.size) (λe=>by have:=aI.out;have:=B.2.2;omega)).trans ((B.1.block j aI).trans aS));have c2:=aq P.2;clear an aS aC P B;have D:=ag Z 0;have E:=ag Z 1;have F:=ag Z 2;have G:=ag Z 3;have H:=ag Z 4;have I:=ag Z 5;have J:=ag Z 6;have M:=ag Z 7;simp only[cP,cZ]at D E F G H I J M;have aQ:∀g,wf.frozen? ⟨j,g,none⟩=false:=λg=>by simp[World.frozen?,Z.out]
    go_wp2_with fail;rw[Ch];refine av (v:=.tuple #[Nq,ab 4]) (results_cell_tmp results67 rfl (gH _ rfl (dv Z)) rfl) rfl ?_;exact ah ⟨4,rfl,kD _ cV aa,ai (ai ⟨rfl,rfl,hr,c2⟩)⟩
   ·have aC:=aq (a0.trans (P.1.mono a0.size));have aS:=aq ((P.1.block j (aF.1 bp).1).trans bp);have a3:Hid (∃A a,(A=ad.alloc (.cells #[ab 0,ab 0,ab 0,af ⟨#[]⟩,ae none 0 0,ab 0,ab 0,af ⟨#[]⟩,ae none 0 0,ab 0,ab 0,af ⟨#[]⟩,ae none 0 0,ae none 0 0,ab 0,ab 0,af ⟨#[]⟩,ae none 0 0,ae none 0 0] 183)/\a=ad.heap.size)/\Hid (aj ad A/\A.heap[a]?=some (.cells #[ab 0,ab 0,ab 0,af ⟨#[]⟩,ae none 0 0,ab 0,ab 0,af ⟨#[]⟩,ae none 0 0,ab 0,ab 0,af ⟨#[]⟩,ae none 0 0,ae none 0 0,ab 0,ab 0,af ⟨#[]⟩,ae none 0 0,ae none 0 0] 183)/\ad.heap.size<=a)):=⟨_,_,⟨rfl,rfl⟩,(ap _ _).alloc (ak _) _,aE _ _,ak _⟩;dsimp only
    iterate 13 go_step
    obtain⟨A,a,⟨bb,a9⟩,B⟩:=a3.out;rw[<-bb,<-a9];clear bb a9;have aU:Hid (A.there a 0 19):=dv B.2.1;have aI:=aq (aF.1 aS).1;have a4:Hid (∃wf,wf=A.setCells a 0 (C5 i y c (some ⟨l,0,none⟩) 4 r).toArray.toList/\Hid (wf.rangeAt a 0 (C5 i y c (some ⟨l,0,none⟩) 4 r)/\br (λaP=>aP=a) A wf)):=⟨_,rfl,World.rangeAt_setCells_same A a 0 _ aU,(eq a _ 0 A).1⟩;refine wpList_store_mid rfl 183 (.tmp 12) (.tmp 49) rfl a 0 (C5 i y c (some ⟨l,0,none⟩) 4 r).toArray rfl rfl aU iJ (EV i y c _ 4 r) ?_;obtain⟨wf,bc,an⟩:=a4.out;rw[<-bc];clear bc aU a4 a3;have bl:Hid (aj ad wf):=B.1.trans (an.2.below B.1.size λb a7 e=>by have:=B.2.2;omega);have bm:Hid (∀W:World,wf.heap[a]?=W.heap[a]? ->W.rangeAt a 0 (C5 i y c (some ⟨l,0,none⟩) 4 r)):=λW db g v a8=>by
     have:=an.1 g v a8;simp only[World.cell?,<-db]at this ⊢;exact this
    have bF:=aq B.2.2;have a1:Hid (a<wf.heap.size):=aR (aF.1 B.2.1).1 an.2.size;have cU:wf.cell? ⟨a,0,none⟩=some (ab i):=an.1 0 _ rfl;clear B an;obtain⟨ma,aO,aN,⟨bs,f7⟩,cY⟩:=ch.out i y c l r ad wf P.2.2.2.2 bl;have cW:=aq (⟨P.2.1,P.2.2.1⟩:_/\_);have dM:(i:Int)<=1000000:=by have:=P.2.2.2.1;omega
    have dL:(0:Int)<=(i:Int):=by omega
    have dO:IntKind.i64.wrap ((i:Int)+1)=(i:Int)+1:=by
     rw[IntKind.wrap_i64];omega
    clear P ch;go_upto_region 9 with fail;have b4:Hid (aj wf wf.drew):=(ap _ _).drew;have Q:wf.drew.cell? ⟨z,7,none⟩=some (ae ma aO aN)/\wf.drew.cell? ⟨a,0,none⟩=some (ab i):=⟨bs,cU⟩;clear bs cU f7;refine wp_region_noPanic ?_;refine jB (λw'=>w'.cell? ⟨z,7,none⟩=some (ae ma aO aN)/\w'.cell? ⟨a,0,none⟩=some (ab i)) 13 (by kernel_rfl) ?_
    try simp only[fq]
    refine aT (i:=0) (v:= ?_) rfl (by kernel_rfl) (by kernel_rfl) (by kernel_rfl) (by kernel_rfl) (λ_ _ _ k=>k) rfl ?_ Q ?_;rotate_left
    ·intro w' s
     try dsimp only at s
     go_simp
     try with_reducible rfl
    try simp only[Act.put]
    refine aT (i:=1) (v:= ?_) rfl (by kernel_rfl) (by kernel_rfl) (by kernel_rfl) (by kernel_rfl) (λ_ _ _ k=>k) rfl ?_ Q ?_;rotate_left
    ·intro w' s
     try dsimp only at s
     go_simp
     try with_reducible rfl
    try simp only[Act.put]
    refine aT (i:=2) (v:= ?_) rfl (by kernel_rfl) (by kernel_rfl) (by kernel_rfl) (by kernel_rfl) (λ_ _ _ k=>k) rfl ?_ Q ?_;rotate_left
    ·intro w' s
     try dsimp only at s
     go_simp
     try with_reducible rfl
    try simp only[Act.put]
    refine aT (i:=3) (v:= ?_) rfl (by kernel_rfl) (by kernel_rfl) (by kernel_rfl) (by kernel_rfl) (λ_ _ _ k=>k) rfl ?_ Q ?_;rotate_left
    ·intro w' s
     try dsimp only at s
     go_simp
     try with_reducible rfl
    try simp only[Act.put]
    refine aT (i:=4) (v:= ?_) rfl (by kernel_rfl) (by kernel_rfl) (by kernel_rfl) (by kernel_rfl) (λ_ _ _ k=>k) rfl ?_ Q ?_;rotate_left
    ·intro w' s
     try dsimp only at s
     go_simp
     try with_reducible rfl
    try simp only[Act.put]
    refine aT (i:=5) (v:= ?_) rfl (by kernel_rfl) (by kernel_rfl) (by kernel_rfl) (by kernel_rfl) (λ_ _ _ k=>k) rfl ?_ Q ?_;rotate_left
    ·intro w' s
     try dsimp only at s
     go_simp
     try with_reducible rfl
    try simp only[Act.put]
    refine aT (i:=6) (v:= ?_) rfl (by kernel_rfl) (by kernel_rfl) (by kernel_rfl) (by kernel_rfl) (λ_ _ _ k=>k) rfl ?_ Q ?_;rotate_left
    ·intro w' s
     try dsimp only at s
     go_simp
     try with_reducible rfl
    try simp only[Act.put]
    refine aT (i:=7) (v:= ?_) rfl (by kernel_rfl) (by kernel_rfl) (by kernel_rfl) (by kernel_rfl) (λ_ _ _ k=>k) rfl ?_ Q ?_;rotate_left
    ·intro w' s
     try dsimp only at s
     go_simp
     try with_reducible rfl
    try simp only[Act.put]
    refine aT (i:=8) (v:= ?_) rfl (by kernel_rfl) (by kernel_rfl) (by kernel_rfl) (by kernel_rfl) (λ_ _ _ k=>k) rfl ?_ Q ?_;rotate_left
    ·intro w' s
     try dsimp only at s
     go_simp
     try with_reducible rfl
    try simp only[Act.put]
    refine aT (i:=9) (v:= ?_) rfl (by kernel_rfl) (by kernel_rfl) (by kernel_rfl) (by kernel_rfl) (λ_ _ _ k=>k) rfl ?_ Q ?_;rotate_left
    ·intro w' s
     try dsimp only at s
     go_simp
     try with_reducible rfl
    try simp only[Act.put]
    refine cT (i:=10) (by kernel_rfl) rfl rfl (λK aD=>?_) (by decide)
    go_simp
    refine(cY _ b4).mono ?_;rintro e bh ⟨bd,bf,be,rfl,aX⟩;have bA:Hid (br ay wf bh):=(aJ b4 ay).trans aX.1 λ_ _ e=>e;have a6:bh.cell? ⟨z,7,none⟩=some (ae ma aO aN)/\bh.cell? ⟨a,0,none⟩=some (ab i):=⟨aX.2.1,(bA.cell 0 a1 (λe=>by have:=cj a e;have:=aC.size;have:=bF.out;omega)).trans Q.2⟩;have f7:=aX.2.2.1;have ci:=aq aX.2.2.2;have cd:Hid (br ay wf (bh.setCell ⟨z,7,none⟩ (ae bd bf be))):=bA.trans (bD _ _ _ _) λb _ e=>by rw[e];exact c4
    refine aD _ _ (λ_=>a6) (λ_=>?_);clear aD K aX Q
    try simp only[Act.put,bY,dj,di]
    refine cT (i:=11) (by kernel_rfl) rfl rfl (λK aD=>?_) (by decide)
    go_simp
    refine aD _ _ (λ_=>a6) (λ_=>?_);clear aD K
    try simp only[Act.put,bY,dj,di]
    refine aT (i:=12) (v:= ?_) rfl (by kernel_rfl) (by kernel_rfl) (by kernel_rfl) (by kernel_rfl) (λ_ _ _ k=>k) rfl ?_ a6 ?_;rotate_left
    ·intro w' s
     try dsimp only at s
     go_simp
     try with_reducible rfl
    try simp only[Act.put,bY]
    have bs:=a6.1;refine jA (by kernel_rfl) rfl rfl (by kernel_rfl) (λK aD=>?_)
    go_simp
    refine aD _ _ (NoPanic.normal ?_);clear aD K bs f7 a6
    try simp only[Act.put,bY,dj,di]
    have cr:Hid (∃V,V=bh.setCell ⟨z,7,none⟩ (ae bd bf be)/\Hid (bI i y c l r V/\br ay wf V)):=⟨_,rfl,ci,cd⟩;obtain⟨V,cQ,aY⟩:=cr.out;rw[<-cQ];clear cQ cr ci bA cd;have bG:=aq aY.2.size;have bn:Hid (∀b,w.heap.size<=b->¬ay b):=λb a7 e=>by have:=cj b e;omega
    have cq:=aq aC.size;have bE:=aq ((aY.2.block j (aR aI bl.size) (bn j (by rw[aa.out];exact ak _))).trans ((bl.block j aI).trans aS));have bq:=aq (aY.2.block a a1 (bn a (by have:=bF.out;have:=cq.out;omega)));have b5:=aq (bm V bq.symm);have dC:V.cell? ⟨a,18,none⟩=some (ae (some ⟨l,0,none⟩) 4 r):=b5 18 _ rfl;have ct:Hid (∃u m,(u=V.alloc (.cells #[ae (some ⟨l,0,none⟩) 4 r,ab self,ab next,ae none 0 0,ae none 0 0,ae none 0 0,.bool false] 189)/\m=V.heap.size)/\Hid (aj V u/\u.heap[m]?=some (.cells #[ae (some ⟨l,0,none⟩) 4 r,ab self,ab next,ae none 0 0,ae none 0 0,ae none 0 0,.bool false] 189)/\V.heap.size<=m)):=⟨_,_,⟨rfl,rfl⟩,(ap _ _).alloc (ak _) _,aE _ _,ak _⟩;go_upto_region 11 with fail;obtain⟨u,m,⟨cR,aL⟩,al⟩:=ct.out;rw[<-cR,<-aL];clear cR aL ct dC;have N:=aq (bm u (((al.1.block a (aR a1 bG)).trans bq).symm));have dm:u.cell? ⟨a,5,none⟩=some (ab c.1.1.1.1):=N 5 _ rfl;have dn:u.cell? ⟨a,6,none⟩=some (ab c.1.1.1.2.1):=N 6 _ rfl;have ds:u.cell? ⟨a,7,none⟩=some (af c.1.1.1.2.2):=N 7 _ rfl;have dt:u.cell? ⟨a,8,none⟩=some (ae c.1.1.2.1.1 c.1.1.2.2.length c.1.1.2.1.2):=N 8 _ rfl;have du:u.cell? ⟨a,9,none⟩=some (ab c.1.2.1.1.1):=N 9 _ rfl;have dw:u.cell? ⟨a,10,none⟩=some (ab c.1.2.1.1.2.1):=N 10 _ rfl;have dx:u.cell? ⟨a,11,none⟩=some (af c.1.2.1.1.2.2):=N 11 _ rfl;have dy:u.cell? ⟨a,12,none⟩=some (ae c.1.2.1.2.1.1 c.1.2.1.2.2.length c.1.2.1.2.1.2):=N 12 _ rfl;have dz:u.cell? ⟨a,13,none⟩=some (ae c.2.1.1 c.2.2.length c.2.1.2):=N 13 _ rfl;have dA:u.cell? ⟨a,14,none⟩=some (ab c.1.2.2.1.1):=N 14 _ rfl;have dp:u.cell? ⟨a,15,none⟩=some (ab c.1.2.2.1.2.1):=N 15 _ rfl;have dq:u.cell? ⟨a,16,none⟩=some (af c.1.2.2.1.2.2):=N 16 _ rfl;have dr:u.cell? ⟨a,17,none⟩=some (ae c.1.2.2.2.1.1 c.1.2.2.2.2.length c.1.2.2.2.1.2):=N 17 _ rfl;have cb:=aq (cc i y c l r V u m aY.1 al.1 al.2.2 al.2.1);go_wp2_with fail;refine cb.mono ?_;rintro e aG ⟨f,rfl,aZ⟩;clear dm dn ds dt du dw dx dy dz dA dp dq dr cb;have c8:=aq aZ.1.size;have c7:=aq al.1.size;have ao:Hid (j≠m/\j≠l/\a≠m/\a≠l/\j<u.heap.size/\a<u.heap.size/\w.heap.size<=j/\w.heap.size<=a):=by
     have cD:=aa.out;have cE:=c1.out;have da:=cW.out;have dF:=bF.out;have dG:=a1.out;have dH:=bG.out;have dI:=al.2.2;have dJ:=c7.out;have dK:=aI.out;have dD:=bl.size;have dE:=cq.out;exact⟨by omega,by omega,by omega,by omega,by omega,by omega,by omega,by omega⟩
    have ck:=aq ((aZ.1.block j ao.2.2.2.2.1 (λe=>by
     rcases e with e|e|e
     ·exact bn j ao.2.2.2.2.2.2.1 e
     ·exact ao.1 e
     ·exact ao.2.1 e)).trans ((al.1.block j (aF.1 bE).1).trans bE))
    have b6:=aq (bm aG (((aZ.1.block a ao.2.2.2.2.2.1 (λe=>by
     rcases e with e|e|e
     ·exact bn a ao.2.2.2.2.2.2.2 e
     ·exact ao.2.2.1 e
     ·exact ao.2.2.2.1 e)).trans ((al.1.block a (aR a1 bG)).trans bq)).symm))
    have co:=aq aZ.2;clear aZ N b5 bE bq aY al bm cc;have cu:Hid (∃t h,(t=aG.alloc (.cells #[ab 0,ab 0,af ⟨#[]⟩,ae none 0 0,ab f,ae none 0 0,ae none 0 0,ae none 0 0] 137)/\h=aG.heap.size)/\Hid (aj aG t/\t.heap[h]?=some (.cells #[ab 0,ab 0,af ⟨#[]⟩,ae none 0 0,ab f,ae none 0 0,ae none 0 0,ae none 0 0] 137)/\aG.heap.size<=h)):=⟨_,_,⟨rfl,rfl⟩,(ap _ _).alloc (ak _) _,aE _ _,ak _⟩;go_upto_region 12 with fail;obtain⟨t,h,⟨cM,cK⟩,x⟩:=cu.out;rw[<-cM,<-cK];clear cM cK cu;have t4:t.cell? ⟨h,4,none⟩=some (ab f):=ag x.2.1 4;have bo:=aq ((x.1.block j (aF.1 ck).1).trans ck);have aH:Hid (j≠h/\a≠h/\a<aG.heap.size):=by
     have cD:=ao.out;have cE:=c8.out;have da:=x.2.2;exact⟨by omega,by omega,by omega⟩
    by_cases aM:f=0\/f=1
    ·by_cases bu:f=0
     case' pos=>have cG:(f==0)=true:=cm.2 bu
     case' neg=>
      have cG:(f==0)=false:=iz.2 bu;have dc:(f==1)=true:=cm.2 (aM.resolve_left bu)
     all_goals
      have a2:=aq bo.out;have O:=aq x.2.1;obtain⟨v0,v1,v2,cS,sa,sl,sc,pa,pl,pc,ka,kl,kc,aL,cL⟩:=co.out.1 aM;have bH:=aq cL;have bz:=aq ((x.1.block m (aF.1 aL).1).trans aL);have dd:m≠h:=by
       have cD:=(aF.1 aL).1;have cE:=x.2.2;omega
      have dN:h≠m:=λe=>dd e.symm;clear aL cL bo aM bu;have d3:t.cell? ⟨m,3,none⟩=some (ae sa sl sc):=ag bz 3;have d4:t.cell? ⟨m,4,none⟩=some (ae pa pl pc):=ag bz 4;have d5:t.cell? ⟨m,5,none⟩=some (ae ka kl kc):=ag bz 5;have cA:=ag O 5;have cB:=ag O 6;have cC:=ag O 7;simp only[cP,cZ]at cA cB cC;have c9:∀g,t.frozen? ⟨h,g,none⟩=false:=λg=>by simp[World.frozen?,O.out]
      go_upto_region 13 with fail;go_region_held3 (λW=>W.cell? ⟨m,3,none⟩=some (ae sa sl sc)/\W.cell? ⟨m,4,none⟩=some (ae pa pl pc)/\W.cell? ⟨m,5,none⟩=some (ae ka kl kc)) (first|(go_keep;done)|exact⟨d3,d4,d5⟩) ((fail));have cv:Hid (∃R,R=((t.setCell ⟨h,5,none⟩ (ae sa sl sc)).setCell ⟨h,6,none⟩ (ae pa pl pc)).setCell ⟨h,7,none⟩ (ae ka kl kc)/\Hid (br (λb=>b=h) t R/\R.heap[h]?=some (.cells #[ab 0,ab 0,af ⟨#[]⟩,ae none 0 0,ab f,ae sa sl sc,ae pa pl pc,ae ka kl kc] 137))):=⟨_,rfl,br.trans (br.trans (bD t h 5 _) (bD _ h 6 _) λ_ _ e=>e) (bD _ h 7 _) λ_ _ e=>e,Hx O _ _ _⟩;obtain⟨R,cN,X⟩:=cv.out;rw[<-cN];clear cN cv d3 d4 d5 cA cB cC c9 t4;have cl:=aq ((X.1.block j (aF.1 a2).1 aH.1).trans a2);go_upto_region 14 with fail;have S:=aq (λ(g:Nat)(v:Value)(a8:(C5 i y c (some ⟨l,0,none⟩) 4 r)[g]?=some v)=>(X.1.cell (0+g) (aR aH.2.2 x.1.size) aH.2.1).trans ((x.1.cell (p:=⟨a,0+g,none⟩) aH.2.2).trans (b6 g v a8)));have bT:R.cell? ⟨a,1,none⟩=some (ab y.1.1):=S 1 _ rfl;have bU:R.cell? ⟨a,2,none⟩=some (ab y.1.2.1):=S 2 _ rfl;have bV:R.cell? ⟨a,3,none⟩=some (af y.1.2.2):=S 3 _ rfl;have bW:R.cell? ⟨a,4,none⟩=some (ae y.2.1.1 y.2.2.length y.2.1.2):=S 4 _ rfl;have ar:=ag X.2 0;have au:=ag X.2 1;have aw:=ag X.2 2;have ax:=ag X.2 3;simp only[cP,cZ]at ar au aw ax;have b2:∀g,R.frozen? ⟨h,g,none⟩=false:=λg=>by simp[World.frozen?,X.out.2]
      have a5:Hid (∃C,C=(((R.setCell ⟨h,0,none⟩ (ab y.1.1)).setCell ⟨h,1,none⟩ (ab y.1.2.1)).setCell ⟨h,2,none⟩ (af y.1.2.2)).setCell ⟨h,3,none⟩ (ae y.2.1.1 y.2.2.length y.2.1.2)/\Hid (br (λb=>b=h) R C/\C.heap[h]?=some (.cells #[ab y.1.1,ab y.1.2.1,af y.1.2.2,ae y.2.1.1 y.2.2.length y.2.1.2,ab f,ae sa sl sc,ae pa pl pc,ae ka kl kc] 137))):=⟨_,rfl,og R h 0 _ _ _ _,FB X.2 _ _ _ _⟩;go_upto_region 15 with fail;obtain⟨C,ba,o⟩:=a5.out;rw[<-ba];clear ba a5 bT bU bV bW ar au aw ax b2 S;have q:=aq ((o.1.block j (aF.1 cl).1 aH.1).trans cl);have ar:=ag o.2 0;have au:=ag o.2 1;have aw:=ag o.2 2;have ax:=ag o.2 3;have bX:=ag o.2 4;have bZ:=ag o.2 5;have b0:=ag o.2 6;have b1:=ag o.2 7;have D:=ag q 0;have E:=ag q 1;have F:=ag q 2;have G:=ag q 3;have H:=ag q 4;have I:=ag q 5;have J:=ag q 6;have M:=ag q 7;simp only[cP,cZ]at ar au aw ax bX bZ b0 b1 D E F G H I J M;have aQ:∀g,C.frozen? ⟨j,g,none⟩=false:=λg=>by simp[World.frozen?,q.out]
      go_wp2_with fail;rw[Ch];refine av (v:=.tuple #[Pd y.1.1 y.1.2.1 y.1.2.2 y.2.1.1 y.2.2.length y.2.1.2 f sa sl sc pa pl pc ka kl kc,ab 0]) (results_cell_tmp results67 rfl (BC _ rfl (dv q)) rfl) rfl ?_;refine ai ⟨i,y,c,f,sa,sl,sc,pa,pl,pc,ka,kl,kc,rfl,rfl,by first|rfl|exact hr,aG,C,bH,((x.1.trans (X.1.below x.1.size λb a7 e=>by have:=x.2.2;omega)).trans (o.1.below (az x.1.size X.1.size) λb a7 e=>by have:=x.2.2;omega)),?_⟩;rw[<-aa.out];exact(eq j _ 0 C).1.trans (aJ ((ap _ _).drew) _) λ_ _ e=>e
    ·have bH:=aq (co.2 aM);have cG:(f==0)=false:=iz.2 λe=>aM (ah e);have dc:(f==1)=false:=iz.2 λe=>aM (ai e);have a2:=aq bo.out;have O:=aq x.2.1;clear aM t4 bo;have t4:t.cell? ⟨h,4,none⟩=some (ab f):=ag O 4;go_upto_region 14 with fail;clear t4;have S:=aq (λg v a8=>(x.1.cell (p:=⟨a,0+g,none⟩) aH.2.2).trans (b6 g v a8));have bT:t.cell? ⟨a,1,none⟩=some (ab y.1.1):=S 1 _ rfl;have bU:t.cell? ⟨a,2,none⟩=some (ab y.1.2.1):=S 2 _ rfl;have bV:t.cell? ⟨a,3,none⟩=some (af y.1.2.2):=S 3 _ rfl;have bW:t.cell? ⟨a,4,none⟩=some (ae y.2.1.1 y.2.2.length y.2.1.2):=S 4 _ rfl;have ar:=ag O 0;have au:=ag O 1;have aw:=ag O 2;have ax:=ag O 3;simp only[cP,cZ]at ar au aw ax;have b2:∀g,t.frozen? ⟨h,g,none⟩=false:=λg=>by simp[World.frozen?,O.out]
     have a5:Hid (∃C,C=(((t.setCell ⟨h,0,none⟩ (ab y.1.1)).setCell ⟨h,1,none⟩ (ab y.1.2.1)).setCell ⟨h,2,none⟩ (af y.1.2.2)).setCell ⟨h,3,none⟩ (ae y.2.1.1 y.2.2.length y.2.1.2)/\Hid (br (λb=>b=h) t C/\C.heap[h]?=some (.cells #[ab y.1.1,ab y.1.2.1,af y.1.2.2,ae y.2.1.1 y.2.2.length y.2.1.2,ab f,ae none 0 0,ae none 0 0,ae none 0 0] 137))):=⟨_,rfl,og t h 0 _ _ _ _,FB O _ _ _ _⟩;go_upto_region 15 with fail;obtain⟨C,ba,o⟩:=a5.out;rw[<-ba];clear ba a5 bT bU bV bW ar au aw ax b2 S;have q:=aq ((o.1.block j (aF.1 a2).1 aH.1).trans a2);have ar:=ag o.2 0;have au:=ag o.2 1;have aw:=ag o.2 2;have ax:=ag o.2 3;have bX:=ag o.2 4;have bZ:=ag o.2 5;have b0:=ag o.2 6;have b1:=ag o.2 7;have D:=ag q 0;have E:=ag q 1;have F:=ag q 2;have G:=ag q 3;have H:=ag q 4;have I:=ag q 5;have J:=ag q 6;have M:=ag q 7;simp only[cP,cZ]at ar au aw ax bX bZ b0 b1 D E F G H I J M;have aQ:∀g,C.frozen? ⟨j,g,none⟩=false:=λg=>by simp[World.frozen?,q.out]
     go_wp2_with fail;rw[Ch];refine av (v:=.tuple #[Pd y.1.1 y.1.2.1 y.1.2.2 y.2.1.1 y.2.2.length y.2.1.2 f none 0 0 none 0 0 none 0 0,ab 0]) (results_cell_tmp results67 rfl (gH _ rfl (dv q)) rfl) rfl ?_;refine ai ⟨i,y,c,f,none,0,0,none,0,0,none,0,0,rfl,rfl,by first|rfl|exact hr,aG,C,bH,(x.1.trans (o.1.below x.1.size λb a7 e=>by have:=x.2.2;omega)),?_⟩;rw[<-aa.out];exact(eq j _ 0 C).1
end Go.Proofs.YtmmahddlcldmiaaGreatDoor
