/- Proved here: plain facts and contracts. No condition but what each names. -/
import Derived.Test.YtmmahddlcldmiaaGreatJ33
import Derived.Deep.RegionWith
import Derived.Deep.CutBlock
namespace Go.Proofs.YtmmahddlcldmiaaGreat
open Go.RowKit Tryz
set_option maxRecDepth 100000
set_option maxHeartbeats 8000000
theorem FG(a:Nat)(W:ag):(binOp .eql 27 (aH a) (.pointer none)).run Tryz.prog W=.ok (.bool false) W:=by kernel_rfl
theorem Ij(W:ag):(binOp .eql 27 (.pointer none) (.pointer none)).run Tryz.prog W=.ok (.bool true) W:=by kernel_rfl
def Pu(pa d:Nat)(o:aw->Nat->Nat->ag->Prop)(W:ag):Prop:=
 am 10 #[aH pa] W λa p=>∃f h b,a=.returned (ae f b h)/\Hid (am 10 #[aH d] p λa r=>∃g i,a=.returned (ae g b i)/\Hid (am 9 #[ae f b h,ae g b i] r λa s=>a=.returned (.bool true)/\Hid (am 12 #[aH pa] s λa t=>∃k,a=.returned k/\Hid (am 12 #[aH d] t λa u=>∃j,a=.returned j/\Hid (am 11 #[k,j] u λa v=>a=.returned (.bool true)/\Hid (am 14 #[aH pa] v λa w=>∃l,a=.returned l/\Hid (am 14 #[aH d] w λa x=>∃m,a=.returned m/\Hid (am 13 #[l,m] x λa y=>a=.returned (.bool true)/\Hid (am 12 #[aH pa] y λa q=>∃e n c,a=.returned (ae e n c)/\n<=12/\Hid (o e n c q))))))))))
def Pv(pa t:Nat)(p:Int)(K:ag->Prop)(W:ag):Prop:=
 am 15 #[aH pa,ab p] W λa k=>∃i y0 y1 y2 ya yl yc e b f j,a=.returned (.tuple #[af i,.agg #[ab y0,ab y1,af y2,ae ya yl yc],ae e b f,ab j])/\Hid (ak W k/\∀c,ak k c->am 15 #[aH t,ab p] c λa l=>∃m n o q s r g h,a=.returned (.tuple #[af i,.agg #[ab m,ab n,af o,ae q s r],ae g b h,ab j])/\Hid (ak c l/\∀d,ak l d->am 16 #[.agg #[ab y0,ab y1,af y2,ae ya yl yc],.agg #[ab m,ab n,af o,ae q s r]] d λa u=>a=.returned (.bool true)/\Hid (am 17 #[ae e b f,ae g b h] u λa v=>a=.returned (.bool true)/\Hid (K v))))
theorem Ix(aK:aw)(aN aM:Nat)(room:Int)(sa:aw)(sl sc:Nat)(br:aw)(f b3:Nat)(bh:aw)(D ac:Nat)(bo:aw)(aA bR:Nat)(N J L O P:Nat->Int)(Q:Nat->ap)(R:Nat->aw)(T S:Nat->Nat)(v:Nat->Int)(w:ag)(be:ag->Prop)(bf:Nat->ag->Prop)(K:Nat->Nat->Nat->ag->Prop)(M:Bool->Bool->Nat->Nat->Nat->Nat->ag->Prop)(av:Nat->Nat->aw->Nat->Nat->Nat->ag->Prop)(cj:f<=1048576)(ca:D<=9223372036854775807)(bd:Hid (am 5 #[] w λe w'=>e=.returned (.bool true)/\ak w w'))(HB:Hid (∀W,ak w W->am 6 #[ae aK aN aM,ab room,ae sa sl sc] W λe w'=>(e=.returned (.pointer none)/\Hid (be w'))\/∃pa,e=.returned (aH pa)/\Hid (bf pa w')))(aP:Hid (∀W,be W->am 6 #[ae aK aN aM,ab room,ae sa sl sc] W λe w'=>e=.returned (.pointer none)/\Hid (ak w w')))(aQ:Hid (∀pa W,bf pa W->am 6 #[ae aK aN aM,ab room,ae sa sl sc] W λe w'=>∃d,e=.returned (aH d)/\Hid (K pa d 0 w')))(an:Hid (∀pa d j W,K pa d j W->ak w W))(ar:Hid (∀pa d j W,j<f->f<=80->K pa d j W->∃g o,(br=some ⟨g,o,none⟩/\W.cell? ⟨g,o+j*7,none⟩=some (ab (N j))/\W.cell? ⟨g,o+j*7+1,none⟩=some (ab (J j))/\W.cell? ⟨g,o+j*7+2,none⟩=some (ab (L j))/\W.cell? ⟨g,o+j*7+3,none⟩=some (ab (O j))/\W.cell? ⟨g,o+j*7+4,none⟩=some (ab (P j))/\W.cell? ⟨g,o+j*7+5,none⟩=some (af (Q j))/\W.cell? ⟨g,o+j*7+6,none⟩=some (ae (R j) (T j) (S j)))/\Hid (∀aT,ak W aT->aT.heap[W.heap.size]?=some (.cells #[ab (N j),ab (J j),ab (L j),ab (O j),ab (P j),af (Q j),ae (R j) (T j) (S j)] 33)->M false false pa d j W.heap.size aT)))(s:Hid (∀x y pa d j r W,M x y pa d j r W->ak w W/\W.heap[r]?=some (.cells #[ab (N j),ab (J j),ab (L j),ab (O j),ab (P j),af (Q j),ae (R j) (T j) (S j)] 33)))(B:Hid (∀x y pa d j r W bg,M x y pa d j r W->ak W bg->M x y pa d j r bg))(A:Hid (∀W k,ak w W->k<D->∃g o a,bh=some ⟨g,o,none⟩/\W.cell? ⟨g,o+k,none⟩=some (ab a)))(C:Hid (∀W k,ak w W->k<aA->∃g o a,bo=some ⟨g,o,none⟩/\W.cell? ⟨g,o+k,none⟩=some (ab a)))(h:Hid (∀pa d j r W a,j<f->f<=80->M false false pa d j r W->am 7 #[aH d,ab a] W λe w'=>e=.returned (.tuple #[])/\Hid (M false false pa d j r w')))(t:Hid (∀y pa d j r W,j<f->f<=80->M false y pa d j r W->am 8 #[aH pa,.agg #[ab (N j),ab (J j),ab (L j),ab (O j),ab (P j),af (Q j),ae (R j) (T j) (S j)]] W λe w'=>e=.returned (ab (v j))/\Hid (M true y pa d j r w')))(u:Hid (∀x pa d j r W,j<f->f<=80->M x false pa d j r W->am 8 #[aH d,.agg #[ab (N j),ab (J j),ab (L j),ab (O j),ab (P j),af (Q j),ae (R j) (T j) (S j)]] W λe w'=>e=.returned (ab (v j))/\Hid (M x true pa d j r w')))(I:Hid (∀pa d j r W,M true true pa d j r W->K pa d (j+1) W))(al:Hid (∀pa d W,f<=80->K pa d f W->Pu pa d (λa n c W=>av pa d a n c 0 W) W))(Y:Hid (∀pa d a n c j W,av pa d a n c j W->ak w W))(Z:Hid (∀pa d a n c j W,f<=80->j<n->av pa d a n c j W->∃g o p,(a=some ⟨g,o,none⟩/\W.cell? ⟨g,o+j,none⟩=some (ab p))/\Hid (Pv pa d p (λW=>av pa d a n c (j+1) W) W))):am 3 #[ae aK aN aM,ab room,ae sa sl sc,ae br f b3,ae bh D ac,ae bo aA bR] w λe w'=>e=.returned (.bool true)/\ak w w':=by
 go_enter func3,ntmps3;go_wp2_with fail;refine bd.mono ?_;rintro e cx ⟨rfl,aY⟩;have H:=au aY;clear bd aY;go_wp2_with fail;refine(HB _ H).mono ?_;clear HB H;rintro e cC (⟨rfl,aG⟩|⟨pa,rfl,a3⟩)
 ·have i:=au (aP _ aG);have ce:=Ij;clear aP aQ an ar s B A C h t u I al Y Z aG;go_wp2_with fail;refine i.mono ?_;rintro e bY ⟨rfl,X⟩;clear i;go_wp2_with fail
  go_ret
  exact⟨rfl,X⟩
 have i:=au (aQ _ _ a3);clear aP aQ a3;go_wp2_with fail;refine i.mono ?_;rintro e bY ⟨d,rfl,X⟩;clear i;have cf:=FG pa;have cg:=FG d;by_cases F:f<=80;rotate_left
 ·have bN:(80:Int)<(f:Int):=by omega
  have aG:=au (an _ _ _ _ X);clear ar s B A C h t u I al Y Z X an;go_wp2_with fail
  go_ret
  exact⟨rfl,aG⟩
 have bN:¬(80:Int)<(f:Int):=by omega
 go_wp2_with fail;go_loopw [15,16,17,18,57] (λ_ _ _ _ q wr=>∃(j:Nat),j<=f/\q=ab j/\Hid (K pa d j wr)) (λ_ _ _ _ q _=>f-(intOf q).toNat)
 case atStart=>exact⟨0,aL _,rfl,X⟩
 case round=>
 clear X;obtain⟨j,bO,rfl,z⟩:=hrel;by_cases E:j<f
 ·obtain⟨g,o,⟨rfl,aU,bi,bj,bE,bF,aV,bG⟩,ba⟩:=ar.out pa d j _ E F z;have bS:(0:Int)<=(j:Int):=by omega
  have bT:(j:Int)<(f:Int):=by omega
  clear ar z al Y Z an;go_upto_region 9 with fail;generalize aX:World.alloc _ _=bZ;have bc:=au (ba bZ (by rw[<-aX];exact(aq _ _).alloc (ao _) _) (by rw[<-aX];exact aF _ _));clear aX ba aU bi bj bE bF aV bG;generalize wr.heap.size=r at*;go_wp2_with fail;go_loopw [17,18,64] (λ_ _ q b1=>∃(k:Nat),k<=D/\q=ab k/\Hid (M false false pa d j r b1)) (λ_ _ q _=>D-(intOf q).toNat)
  case atStart=>exact⟨0,aL _,rfl,bc⟩
  case round=>
  clear bc;obtain⟨k,cb,rfl,i⟩:=hrel;by_cases bQ:k<D
  ·obtain⟨b8,cr,a,rfl,b7⟩:=A.out _ k (s _ _ _ _ _ _ _ i).1 bQ;have ck:(0:Int)<=(k:Int):=by omega
   have cl:(k:Int)<(D:Int):=by omega
   by_cases bm:a=(j:Int)
   ·subst bm;have bD:((j:Int)==(j:Int))=true:=by simp
    by_cases bP:k<aA
    ·obtain⟨b9,cs,b,rfl,bk⟩:=C.out _ k (s _ _ _ _ _ _ _ i).1 bP;have bU:(k:Int)<(aA:Int):=by omega
     have bA:=au (h _ _ _ _ _ b E F i);clear h i t u I s B A C;go_wp2_with fail;refine bA.mono ?_;rintro e aC ⟨rfl,G⟩;go_wp2_with fail;go_roundw
     case rel=>exact⟨k+1,by omega,by go_num,G⟩
     case measure=>simp[intOf];omega
    ·have bU:¬(k:Int)<(aA:Int):=by omega
     clear h t u I s B A C;go_wp2_with fail;go_roundw
     case rel=>exact⟨k+1,by omega,by go_num,i⟩
     case measure=>simp[intOf];omega
   ·have bD:(a==(j:Int))=false:=by simpa using bm
    clear h t u I s B A C;go_wp2_with fail;go_roundw
    case rel=>exact⟨k+1,by omega,by go_num,i⟩
    case measure=>simp[intOf];omega
  obtain rfl:k=D:=by omega
  clear A C h;go_upto_region 15 with fail;have bb:Hid (ak wr wr.drew):=(aq _ _).drew;have aI:=au (B _ _ _ _ _ _ _ _ i bb);have aE:=au (t false pa d j r _ E F aI);have H:=au (u false pa d j r _ E F aI);have a6:=au (λW (ax:M false true pa d j r W)=>t true pa d j r W E F ax);have a8:=au (λW (ax:M true false pa d j r W)=>u true pa d j r W E F ax);have aj:Hid (∀x y W,M x y pa d j r W->W.cell? ⟨r,0,none⟩=some (Value.int .i64 (N j))/\W.cell? ⟨r,1,none⟩=some (Value.int .i64 (J j))/\W.cell? ⟨r,2,none⟩=some (Value.int .i64 (L j))/\W.cell? ⟨r,3,none⟩=some (Value.int .i64 (O j))/\W.cell? ⟨r,4,none⟩=some (Value.int .i64 (P j))/\W.cell? ⟨r,5,none⟩=some (Value.string (Q j))/\W.cell? ⟨r,6,none⟩=some (Value.slice (R j) (T j) (S j))):=λx y W ax=>by
   have U:=(s _ _ _ _ _ _ _ ax).2;exact⟨ah U 0,ah U 1,ah U 2,ah U 3,ah U 4,ah U 5,ah U 6⟩
  have ci:(v j==v j)=true:=by simp
  clear t u s B i bb;go_cut [57,91]from 57 to 92 (λbV bW b2=>bV=ab j/\bW=.bool false/\Hid (M true true pa d j r b2))
  case first=>
   go_region_held3 (λW=>W.cell? ⟨r,0,none⟩=some (Value.int .i64 (N j))/\W.cell? ⟨r,1,none⟩=some (Value.int .i64 (J j))/\W.cell? ⟨r,2,none⟩=some (Value.int .i64 (L j))/\W.cell? ⟨r,3,none⟩=some (Value.int .i64 (O j))/\W.cell? ⟨r,4,none⟩=some (Value.int .i64 (P j))/\W.cell? ⟨r,5,none⟩=some (Value.string (Q j))/\W.cell? ⟨r,6,none⟩=some (Value.slice (R j) (T j) (S j))) (first|exact aj _ _ _ aI|exact aj _ _ _ a7|exact aj _ _ _ a9|exact aj _ _ _ m) ((go_at_call 8;first
    | (refine aE.mono ?_;rintro e aa ⟨rfl,a7⟩;clear aE H)
    | (refine H.mono ?_;rintro e aa ⟨rfl,a9⟩;clear aE H)
    | (refine(a8 _ a7).mono ?_;rintro e ad ⟨rfl,m⟩)
    | (refine(a6 _ a9).mono ?_;rintro e ad ⟨rfl,m⟩)))
   all_goals
    go_wp2_with fail;go_meet
    case rel=>exact⟨rfl,rfl,m⟩
  case rest=>
  obtain⟨rfl,rfl,bB⟩:=hcut;clear aE H a6 a8 aj aI;go_wp2_with fail;go_roundw
  case rel=>exact⟨j+1,by omega,by go_num,I _ _ _ _ _ bB⟩
  case measure=>simp[intOf];omega
 obtain rfl:j=f:=by omega
 have aR:=au (al _ _ _ F z);unfold Pu at aR;clear ar s B A C h t u I al z an;go_wp2_with fail;refine aR.mono ?_;rintro e aC ⟨b5,bi,b4,rfl,G⟩;clear aR;go_wp2_with fail;refine G.mono ?_;rintro e aa ⟨b6,bj,rfl,a4⟩;clear G;go_wp2_with fail;refine a4.mono ?_;rintro e ad ⟨rfl,m⟩;clear a4;go_wp2_with fail;refine m.mono ?_;rintro e l ⟨ct,rfl,a5⟩;clear m;go_wp2_with fail;refine a5.mono ?_;rintro e b0 ⟨cu,rfl,ai⟩;clear a5;go_wp2_with fail;refine ai.mono ?_;rintro e bX ⟨rfl,aD⟩;clear ai;go_wp2_with fail;refine aD.mono ?_;rintro e cy ⟨cv,rfl,aZ⟩;clear aD;go_wp2_with fail;refine aZ.mono ?_;rintro e cz ⟨cw,rfl,a0⟩;clear aZ;go_wp2_with fail;refine a0.mono ?_;rintro e cA ⟨rfl,a1⟩;clear a0;go_wp2_with fail;refine a1.mono ?_;rintro e cB ⟨bC,n,aV,rfl,cc,a2⟩;clear a1;go_wp2_with fail;go_loopw [20,21,22,23,24,25,26,27,28,118] (λ_ _ _ _ _ _ _ _ _ q wr=>∃(j:Nat),j<=n/\q=ab j/\Hid (av pa d bC n aV j wr)) (λ_ _ _ _ _ _ _ _ _ q _=>n-(intOf q).toNat)
 case atStart=>exact⟨0,aL _,rfl,a2⟩
 case round=>
 clear a2;obtain⟨j,bO,rfl,z⟩:=hrel;by_cases E:j<n;rotate_left
 ·obtain rfl:j=n:=by omega
  have bz:=au (Y _ _ _ _ _ _ _ z);clear Z z Y;go_wp2_with fail
  go_ret
  exact⟨rfl,bz⟩
 obtain⟨g,o,p,⟨rfl,aU⟩,h⟩:=Z.out _ _ _ _ _ _ _ F E z;have bS:(0:Int)<=(j:Int):=by omega
 have bT:(j:Int)<(n:Int):=by omega
 unfold Pv at h;clear Z z Y;go_wp2_with fail;refine h.mono ?_;rintro e aC ⟨bp,y0,y1,y2,ya,yl,yc,cm,co,cn,bq,rfl,G⟩;clear h aU;go_upto_region 24 with fail;generalize V:World.alloc _ _=aa;have bl:ak aC aa:=by rw[<-V];exact(aq _ _).alloc (ao _) _
 have aS:Hid (aa.heap[aC.heap.size]?=some (.cells #[ab y0,ab y1,af y2,ae ya yl yc] 31)):=by
  rw[<-V];exact aF _ _
 have h:=au (G.2 aa bl);clear V bl G;generalize aC.heap.size=aB at*;go_wp2_with fail;refine h.mono ?_;rintro e ad ⟨bs,bt,bu,bv,bx,bw,cp,cq,rfl,m⟩;clear h;go_upto_region 25 with fail;generalize V:World.alloc _ _=l;have aW:ak ad l:=by rw[<-V];exact(aq _ _).alloc (ao _) _
 have az:l.heap[ad.heap.size]?=some (.cells #[ab bs,ab bt,af bu,ae bv bx bw] 31):=by
  rw[<-V];exact aF _ _
 have bn:=m.1.trans (aW.mono m.1.size);have ay:=(bn.block aB (aJ.1 aS).1).trans aS;have h:=au (m.2 l aW);clear V aW m bn aS;generalize ad.heap.size=aO at*;have bH:l.cell? ⟨aB,0,none⟩=some (ab y0):=ah ay 0;have d1:l.cell? ⟨aB,1,none⟩=some (ab y1):=ah ay 1;have bI:l.cell? ⟨aB,2,none⟩=some (af y2):=ah ay 2;have bJ:l.cell? ⟨aB,3,none⟩=some (ae ya yl yc):=ah ay 3;have bk:l.cell? ⟨aO,0,none⟩=some (ab bs):=ah az 0;have bK:l.cell? ⟨aO,1,none⟩=some (ab bt):=ah az 1;have bL:l.cell? ⟨aO,2,none⟩=some (af bu):=ah az 2;have bM:l.cell? ⟨aO,3,none⟩=some (ae bv bx bw):=ah az 3;have cd:(bp.toList==bp.toList)=true:=by simp
 have ch:(bq==bq)=true:=by simp
 clear ay az;go_wp2_with fail;refine h.mono ?_;rintro e b0 ⟨rfl,ai⟩;clear h bH d1 bI bJ bk bK bL bM;go_wp2_with fail;refine ai.mono ?_;rintro e bX ⟨rfl,aD⟩;clear ai;go_wp2_with fail;go_roundw
 case rel=>exact⟨j+1,by omega,by go_num,aD⟩
 case measure=>simp[intOf];omega
theorem E0:(l:List (Int×Int×Int×Tc))->∀{s:Sy},Da s l=true->∀{j:Nat}{e:Int×Int×Int×Tc},l[j]?=some e->(Jp (ze s (l.take j)) e).2=0
 | [],_,_,_,_,h=>by simp at h
 | a::l,s,h,0,e,he=>by
  obtain rfl:a=e:=by simpa using he
  simp only[Da,aK,cF]at h;exact h.1
 | a::l,s,h,j+1,e,he=>by
  simp only[Da,aK]at h;exact E0 l h.2 (by simpa using he)
theorem Jq(s:Sy){l:List (Int×Int×Int×Tc)}{j:Nat}{e:Int×Int×Int×Tc}(a:l[j]?=some e):ze s (l.take (j+1))=(Jp (ze s (l.take j)) e).1:=by
 rw[dz,a];simp[ze]
variable{B:Nat}{S:aR}{a W:ag}
theorem Cx{w0:ag}{V:aR}{s:Sy}{i h:Nat}(v:CQ w0 V a s i h W)(l:List (Int×Int×Int×Tc))(C:Da s l=true)(N:i+l.length<=100)(g c:Nat)(t:V g)(k:Nat->Nat)(x:(j:Nat)->Tm (k j+1))(E:∀j e,l[j]?=some e->(In a.heap.size a (k j+1) (x j)/\cr V (k j+1) (x j))/\(aC (k j+1) (x j)).length<=2097152/\(aB (k j+1) (x j) 13 e.2.2.2=true\/e.1≠3)/\I2 (e.2.1,e.2.2.1))(B:∀j e,l[j]?=some e->a.cell? ⟨g,j*7,none⟩=some (ab e.1)/\a.cell? ⟨g,j*7+1,none⟩=some (ab e.2.1)/\a.cell? ⟨g,j*7+2,none⟩=some (ab e.2.2.1)/\a.cell? ⟨g,j*7+3,none⟩=some (ab (x j).1.1)/\a.cell? ⟨g,j*7+4,none⟩=some (ab (x j).1.2.1)/\a.cell? ⟨g,j*7+5,none⟩=some (af (x j).1.2.2)/\a.cell? ⟨g,j*7+6,none⟩=some (.slice (x j).2.1.1 (x j).2.2.length (x j).2.1.2)):am 21 #[aH h,ae (some ⟨g,0,none⟩) l.length c] W λe w'=>e=.returned (.bool true)/\Hid (CQ w0 V a (ze s l) (i+l.length) h w'):=by
 obtain⟨f,z⟩:∃f:Nat->Int×Int×Int×Tc,∀j,j<l.length->l[j]?=some (f j):=⟨λj=>l.getD j (0,0,0,tF),λj p=>by
  simp only[mW,aM p]
  rfl⟩
 have D:ze s (l.take l.length)=ze s l:=by rw[List.take_length]
 have:=Iq h g l.length c (λj=>(f j).1) (λj=>(f j).2.1) (λj=>(f j).2.2.1) (λj=>(x j).1.1) (λj=>(x j).1.2.1) (λj=>(x j).1.2.2) (λj=>(x j).2.1.1) (λj=>(x j).2.2.length) (λj=>(x j).2.1.2) W (λj n=>CQ w0 V a (ze s (l.take j)) (i+j) h n) (by omega) v (λj n p r=>?_)
 ·rw[<-D];exact this
 ·have m:=z j p;obtain⟨G,H,I,J⟩:=E j _ m;have b:=B j _ m;have d:∀{o:Nat}{q:av},a.cell? ⟨g,o,none⟩=some q->n.cell? ⟨g,o,none⟩=some q:=λ{o q} F=>by
   obtain⟨O,M,_,_,_,_,_,w,y⟩:=r;rw[y.cell o (w g t).1 λK=>K t];exact F
  refine⟨⟨d b.1,d b.2.1,d b.2.2.1,d b.2.2.2.1,d b.2.2.2.2.1,d b.2.2.2.2.2.1,d b.2.2.2.2.2.2⟩,λL A=>?_⟩;refine(M3 (r.later A) (by omega) (f j) J (x j) G H I).mono ?_;rintro e w' ⟨rfl,u⟩;rw[E0 l C m];refine⟨rfl,?_⟩;rw[Jq s m];exact u
theorem Pm(a:Nat)(W:ag):(binOp .eql 27 (aH a) (.pointer none)).run Tryz.prog W=.ok (.bool false) W:=by kernel_rfl
def IP(r:Nat)(W:ag):Prop:=W.heap[r]?=some (.cells #[ab 1,ab 1,ab 0,ab 0,ab 0,af ⟨#[]⟩,ae none 0 0] 33)
theorem pf{r:Nat}{w:ag}(b:IP r w)(c:ak w W):W.cell? ⟨r,0,none⟩=some (Value.int .i64 1)/\W.cell? ⟨r,1,none⟩=some (Value.int .i64 1)/\W.cell? ⟨r,2,none⟩=some (Value.int .i64 0)/\W.cell? ⟨r,3,none⟩=some (Value.int .i64 0)/\W.cell? ⟨r,4,none⟩=some (Value.int .i64 0)/\W.cell? ⟨r,5,none⟩=some (Value.string ⟨#[]⟩)/\W.cell? ⟨r,6,none⟩=some (Value.slice none 0 0):=by
 have a:W.heap[r]?=some (.cells #[ab 1,ab 1,ab 0,ab 0,ab 0,af ⟨#[]⟩,ae none 0 0] 33):=(c.block r (aJ.1 b).1).trans b;exact⟨ah a 0,ah a 1,ah a 2,ah a 3,ah a 4,ah a 5,ah a 6⟩
theorem Hu(w:ag)(M:aw->Nat->Nat->ag->Prop)(aM aN:Nat->ag->Prop)(L:Nat->Nat->ag->Prop)(aO:Nat->ag->Prop)(aP:aw->Nat->ag->Prop)(aQ aR aS:Nat->Int->Int->ap->aw->Nat->Nat->ag->Prop)(av:Hid (am 19 #[] w λe w'=>∃a l c,e=.returned (ae a l c)/\Hid (M a l c w')))(ax:Hid (∀a l c W,M a l c W->am 18 #[ae a l c,ab 60] W λe w'=>∃b,e=.returned (.tuple #[aH b,ab 0])/\Hid (aM b w')))(A:Hid (∀b W,aM b W->am 20 #[aH b,af ⟨#[99,111,117,110,116]⟩,.agg #[ab 1,ab 2,af ⟨#[]⟩,ae none 0 0]] W λe w'=>e=.returned (.tuple #[ab 1,ab 0])/\Hid (aN b w')))(aG:Hid (∀W,am 22 #[ab 1,af ⟨#[40,117,112,32,51,41]⟩] W λe w'=>∃y0 y1 y2 ya yl yc,e=.returned (.agg #[ab 3,ab 1,ab 0,ab y0,ab y1,af y2,ae ya yl yc])/\Hid (aQ W.heap.size y0 y1 y2 ya yl yc w'/\ak W w')))(aI:Hid (∀W,am 22 #[ab 1,af ⟨#[102,111,114,107]⟩] W λe w'=>∃y0 y1 y2 ya yl yc,e=.returned (.agg #[ab 3,ab 1,ab 0,ab y0,ab y1,af y2,ae ya yl yc])/\Hid (aR W.heap.size y0 y1 y2 ya yl yc w'/\ak W w')))(aK:Hid (∀W,am 22 #[ab 1,af ⟨#[98,97,100]⟩] W λe w'=>∃y0 y1 y2 ya yl yc,e=.returned (.agg #[ab 3,ab 1,ab 0,ab y0,ab y1,af y2,ae ya yl yc])/\Hid (aS W.heap.size y0 y1 y2 ya yl yc w'/\ak W w')))(aB:Hid (∀b r g ai B2 p h s R y0 y1 y2 ya yl yc V X Y Z ad aa,aN b p->(ak p h/\p.heap.size=r/\IP r h)->(r<ai/\r<B2)->aQ ai y0 y1 y2 ya yl yc h->ak h s->aR B2 V X Y Z ad aa s->ak s R->(s.heap.size<=g/\R.heap[g]?=some (.cells #[ab 3,ab 1,ab 0,ab y0,ab y1,af y2,ae ya yl yc,ab 1,ab 1,ab 0,ab 0,ab 0,af ⟨#[]⟩,ae none 0 0,ab 3,ab 1,ab 0,ab V,ab X,af Y,ae Z ad aa,ab 1,ab 1,ab 0,ab 0,ab 0,af ⟨#[]⟩,ae none 0 0,ab 2,ab 1,ab 2,ab 0,ab 0,af ⟨#[]⟩,ae none 0 0,ab 1,ab 2,ab 0,ab 0,ab 0,af ⟨#[]⟩,ae none 0 0] 33))->am 21 #[aH b,ae (some ⟨g,0,none⟩) 6 6] R λe w'=>e=.returned (.bool true)/\Hid (L b r w'/\IP r w')))(az:Hid (∀b r W,L b r W->am 15 #[aH b,ab 2] W λe w'=>∃nm U sa sl sc ma aZ aY,e=.returned (.tuple #[af nm,.agg #[ab 1,ab 7,af U,ae sa sl sc],ae ma aZ aY,ab 0])/\ak W w'))(O:Hid (∀b r W o,L b r W->ak W o->am 12 #[aH b] o λe w'=>∃a c,e=.returned (ae a 2 c)/\Hid (aP a c w'/\ak o w')))(Q:Hid (∀a c g W o,aP a c W->ak W o->o.heap[g]?=some (.cells #[ab 1,ab 2] 3)->am 11 #[ae a 2 c,ae (some ⟨g,0,none⟩) 2 2] o λe w'=>e=.returned (.bool true)/\ak o w'))(aC:Hid (∀b r q g B p h s y0 y1 y2 ya yl yc,L b r p->(ak p h/\p.heap.size<=q/\h.cell? ⟨q,1,none⟩=some (ab 7))->p.heap.size<=B->aS B y0 y1 y2 ya yl yc h->IP r h->ak h s->(h.heap.size<=g/\s.heap[g]?=some (.cells #[ab 3,ab 1,ab 0,ab y0,ab y1,af y2,ae ya yl yc,ab 1,ab 1,ab 0,ab 0,ab 0,af ⟨#[]⟩,ae none 0 0] 33))->am 21 #[aH b,ae (some ⟨g,0,none⟩) 2 2] s λe w'=>e=.returned (.bool true)/\Hid (aO b w'/\IP r w'/\w'.cell? ⟨q,1,none⟩=some (ab 7))))(aL:Hid (∀b W,aO b W->am 12 #[aH b] W λe w'=>∃a c,e=.returned (ae a 0 c)/\ak w w')):am 5 #[] w λe w'=>e=.returned (.bool true)/\ak w w':=by
 go_enter func5,ntmps5;go_wp2_with fail;refine av.mono ?_;rintro e bf ⟨a,l,c,rfl,aj⟩;have ay:=au (ax _ _ _ _ aj);clear av ax aj;go_wp2_with fail;refine ay.mono ?_;rintro e bi ⟨b,rfl,al⟩;have aE:=au (A _ _ al);have be:=Pm b;clear ay A al;go_wp2_with fail;refine aE.mono ?_;rintro e t ⟨rfl,an⟩;clear aE;go_upto_region 6 with fail;generalize aX:t.alloc _=C;have x:Hid (ak t C/\t.heap.size=t.heap.size/\IP t.heap.size C):=by
  rw[<-aX];exact⟨(aq _ _).alloc (ao _) _,rfl,aF _ _⟩
 clear aX;have y:Hid (∀W,ak C W->ak t W/\IP t.heap.size W):=λW i=>⟨x.1.trans (i.mono x.1.size),(i.block _ (aJ.1 x.2.2).1).trans x.2.2⟩;generalize S:t.heap.size=r at*;have d:=au (λW (i:ak C W)=>pf x.2.2 i);have E:Hid (ak C C.drew):=(aq _ _).drew
 go_region_held3 (λW=>W.cell? ⟨r,0,none⟩=some (Value.int .i64 1)/\W.cell? ⟨r,1,none⟩=some (Value.int .i64 1)/\W.cell? ⟨r,2,none⟩=some (Value.int .i64 0)/\W.cell? ⟨r,3,none⟩=some (Value.int .i64 0)/\W.cell? ⟨r,4,none⟩=some (Value.int .i64 0)/\W.cell? ⟨r,5,none⟩=some (Value.string ⟨#[]⟩)/\W.cell? ⟨r,6,none⟩=some (Value.slice none 0 0)) (first|exact d _ E|exact d _ m|exact d _ I|exact d _ (I.alloc I.size _)|exact pf n.2 (aq _ _)) ((first
  | (go_at_call 22;first
      | (refine(aG _).mono ?_;rintro e ba ⟨y0,y1,y2,ya,yl,yc,rfl,P⟩;have m:=au (E.trans (P.2.mono E.size));clear aG)
      | (refine(aI _).mono ?_;rintro e bb ⟨V,X,Y,Z,ad,aa,rfl,J⟩;have I:=au (m.trans (J.2.mono m.size));clear aI))
  | (go_at_call 21;refine(aB _ _ _ _ _ _ ba bb _ _ _ _ _ _ _ _ _ _ _ _ _ an ⟨by first|(rw[S];exact(y _ m).1)|exact(y _ m).1,S,(y _ m).2⟩ ⟨(aJ.1 (y _ E).2).1,(aJ.1 (y _ m).2).1⟩ P.1 J.2 J.1 ((aq _ _).alloc (ao _) _) ⟨ao _,aF _ _⟩).mono ?_;rintro e a0 ⟨rfl,n⟩)))
 have aA:=au (az _ _ _ n.1);clear aB az x y d E an m I P J S;go_upto_region 8 with fail;go_wp2_with fail;refine aA.mono ?_;rintro e H ⟨nm,U,sa,sl,sc,ma,aZ,aY,rfl,aV⟩;have K:=au aV;clear aA aV;go_upto_region 9 with fail;generalize T:H.alloc _=j;have f:Hid (ak a0 j/\a0.heap.size<=H.heap.size/\∀W,ak j W->W.cell? ⟨H.heap.size,1,none⟩=some (ab 7)):=by
  have aT:j.heap[H.heap.size]?=some (.cells #[ab 1,ab 7,af U,ae sa sl sc] 31):=by
   rw[<-T];exact aF _ _
  refine⟨K.trans (by rw[<-T];exact(aq _ _).alloc K.size _),K.size,λW i=>?_⟩;have a6:=(i.block _ (aJ.1 aT).1).trans aT;exact ah a6 1
 generalize H.heap.size=q at*;clear T K;have A:Hid (∀W,ak j W->IP r W):=λW i=>(i.block _ (aW (aJ.1 n.2).1 f.1.size)).trans ((f.1.block _ (aJ.1 n.2).1).trans n.2);have d:Hid (∀W,ak j W->(W.cell? ⟨r,0,none⟩=some (Value.int .i64 1)/\W.cell? ⟨r,1,none⟩=some (Value.int .i64 1)/\W.cell? ⟨r,2,none⟩=some (Value.int .i64 0)/\W.cell? ⟨r,3,none⟩=some (Value.int .i64 0)/\W.cell? ⟨r,4,none⟩=some (Value.int .i64 0)/\W.cell? ⟨r,5,none⟩=some (Value.string ⟨#[]⟩)/\W.cell? ⟨r,6,none⟩=some (Value.slice none 0 0))/\W.cell? ⟨q,1,none⟩=some (ab 7)):=λW i=>⟨pf (A W i) (aq _ _),f.2.2 W i⟩;have F:Hid (ak j j.drew):=(aq _ _).drew;have z:Hid (ak j (j.alloc (.cells #[ab 1,ab 2] 3)).drew/\(j.alloc (.cells #[ab 1,ab 2] 3)).drew.heap[j.heap.size]?=some (.cells #[ab 1,ab 2] 3)):=⟨((aq _ _).alloc (ao _) _).drew,aF _ _⟩
 go_region_held3 (λW=>(W.cell? ⟨r,0,none⟩=some (Value.int .i64 1)/\W.cell? ⟨r,1,none⟩=some (Value.int .i64 1)/\W.cell? ⟨r,2,none⟩=some (Value.int .i64 0)/\W.cell? ⟨r,3,none⟩=some (Value.int .i64 0)/\W.cell? ⟨r,4,none⟩=some (Value.int .i64 0)/\W.cell? ⟨r,5,none⟩=some (Value.string ⟨#[]⟩)/\W.cell? ⟨r,6,none⟩=some (Value.slice none 0 0))/\W.cell? ⟨q,1,none⟩=some (ab 7)) (first|exact d _ F|exact d _ z.1|exact d _ k|exact d _ (k.alloc k.size _)|exact d _ D|exact d _ v|exact d _ (v.alloc v.size _)|exact⟨pf N.2.1 (aq _ _),N.2.2⟩) ((first
  | (go_at_call 12;first
      | (refine(O _ _ _ _ n.1 (f.1.trans (F.mono f.1.size))).mono ?_;rintro e a7 ⟨a4,a5,rfl,u⟩;have k:=au (F.trans (u.2.mono F.size)))
      | (refine(O _ _ _ _ n.1 (f.1.trans (z.1.mono f.1.size))).mono ?_;rintro e a7 ⟨a4,a5,rfl,u⟩;have k:=au (z.1.trans (u.2.mono z.1.size));have a2:=au ((u.2.block _ (aJ.1 z.2).1).trans z.2)))
  | (go_at_call 11;first
      | (refine(Q _ _ _ _ _ u.1 (aq _ _) a2).mono ?_;rintro e a8 ⟨rfl,G⟩;have D:=au (k.trans (G.mono k.size));clear G)
      | (refine(Q _ _ _ _ _ u.1 ((aq _ _).alloc (ao _) _) (aF _ _)).mono ?_;rintro e a8 ⟨rfl,G⟩;have D:=au ((k.alloc k.size _).trans (G.mono (k.alloc k.size _).size));clear G))
  | (go_at_call 22;refine(aK _).mono ?_;rintro e a9 ⟨y0,y1,y2,ya,yl,yc,rfl,ar⟩;have v:=au (D.trans (ar.2.mono D.size)))
  | (go_at_call 21;refine(aC _ _ q _ _ _ a9 _ _ _ _ _ _ _ n.1 ⟨f.1.trans (v.mono f.1.size),f.2.1,f.2.2 _ v⟩ (aD f.1.size D.size) ar.1 (A _ v) ((aq _ _).alloc (ao _) _) ⟨ao _,aF _ _⟩).mono ?_;rintro e bg ⟨rfl,N⟩)))
 all_goals
  have a3:=au (aL _ _ N.1);clear O Q aC aL aK A d F f;go_upto_region 11 with fail;go_wp2_with fail;refine a3.mono ?_;rintro e bh ⟨bc,bd,rfl,aU⟩;have a1:=au aU;clear aU;go_wp2_with fail
  go_ret
  exact⟨rfl,a1⟩
theorem Co(g:Nat)(u:Option Nat)(a:Int)(nm:ap)(l:av)(L:Nat)(w:ag)(K:Int->Int->ap->aw->Nat->Nat->ag->Prop)(J:Int->Int->ap->aw->Nat->Nat->aw->Nat->ag->Prop)(S:g<w.heap.size)(A:Hid (w.cell? ⟨g,3,none⟩=some (.map u)))(B:Hid (∀W,ak w W->(Instr.lookup 67 (.map u) (ab a) true).run Tryz.prog W=.ok (.tuple #[l,.bool true]) W))(E:Hid (∀W,ak w W->am 33 #[l] W λe w'=>e=.returned (af nm)/\ak W w'))(F:Hid (∀W,ak w W->w.heap.size<W.heap.size->am 34 #[l] W λe w'=>∃y0 y1 y2 ya yl yc,e=.returned (.agg #[ab y0,ab y1,af y2,ae ya yl yc])/\Hid (ak W w'/\K y0 y1 y2 ya yl yc w')))(C:Hid (∀y0 y1 y2 ya yl yc W,ak w W->w.heap.size<W.heap.size->K y0 y1 y2 ya yl yc W->am 35 #[l] W λe w'=>∃ma d,e=.returned (ae ma L d)/\Hid (ak W w'/\∀I,bB (λq=>q=w.heap.size) w' I->J y0 y1 y2 ya yl yc ma d I))):am 15 #[aH g,ab a] w λe w'=>∃y0 y1 y2 ya yl yc ma d,e=.returned (.tuple #[af nm,.agg #[ab y0,ab y1,af y2,ae ya yl yc],ae ma L d,ab 0])/\Hid (J y0 y1 y2 ya yl yc ma d w'/\ak w w'):=by
 go_enter func15,ntmps15;go_upto_region 1 with fail;generalize t:w.alloc _=x;have HB:Hid (ak w x):=by
  rw[<-t];exact(aq _ _).alloc (ao _) _
 have G:Hid (x.heap[w.heap.size]?=some (.cells #[ab 0,ab 0,af ⟨#[]⟩,ae none 0 0] 31)):=by
  rw[<-t];exact aF _ _
 clear t;have R:=B _ HB;have Q:x.cell? ⟨g,3,none⟩=some (.map u):=(HB.cell (p:=⟨g,3,none⟩) S).trans A;clear B A;go_wp2_with fail;refine(E _ HB).mono ?_;rintro e Y ⟨rfl,r⟩;have j:=au (HB.trans (r.mono HB.size));have m:=au (gm r G);clear r E R Q HB G;go_wp2_with fail;refine(F _ j (aJ.1 m).1).mono ?_;rintro e Z ⟨y0,y1,y2,ya,yl,yc,rfl,h⟩;have k:=au (j.trans (h.1.mono j.size));have n:=au (gm h.1 m);have D:=au (C _ _ _ _ _ _ _ k (aJ.1 n).1 h.2);clear C h F j m;go_wp2_with fail;refine D.mono ?_;rintro e b ⟨ma,d,rfl,i⟩;have y:=au (k.trans (i.1.mono k.size));have c:=gm i.1 n;have H:=au (i.2 _ (ot b w.heap.size 0 (ab y0) (ab y1) (af y2) (ae ya yl yc)));have z:Hid (ak w (di b w.heap.size 0 (ab y0) (ab y1) (af y2) (ae ya yl yc))):=(dO (o:=0) (v0:=ab y0) (v1:=ab y1) (v2:=af y2) (v3:=ae ya yl yc) y (ao _));have f:=au (xR c (ab y0) (ab y1) (af y2) (ae ya yl yc));obtain⟨q,s⟩:∃q,q=w.heap.size:=⟨_,rfl⟩;rw[<-s]at c f z H ⊢;have P:=au s;clear s;have aa:b.cell? ⟨q,0,none⟩=some (ab 0):=ah c 0;have ad:b.cell? ⟨q,1,none⟩=some (ab 0):=ah c 1;have ai:b.cell? ⟨q,2,none⟩=some (af ⟨#[]⟩):=ah c 2;have aj:b.cell? ⟨q,3,none⟩=some (ae none 0 0):=ah c 3;have T:b.frozen? ⟨q,0,none⟩=false:=by simp[World.frozen?,c]
 have U:b.frozen? ⟨q,1,none⟩=false:=by simp[World.frozen?,c]
 have V:b.frozen? ⟨q,2,none⟩=false:=by simp[World.frozen?,c]
 have X:b.frozen? ⟨q,3,none⟩=false:=by simp[World.frozen?,c]
 clear c i D n k y;go_wp2_with fail;have M:(di b q 0 (ab y0) (ab y1) (af y2) (ae ya yl yc)).cell? ⟨q,0,none⟩=some (ab y0):=ah f 0;have d1:(di b q 0 (ab y0) (ab y1) (af y2) (ae ya yl yc)).cell? ⟨q,1,none⟩=some (ab y1):=ah f 1;have N:(di b q 0 (ab y0) (ab y1) (af y2) (ae ya yl yc)).cell? ⟨q,2,none⟩=some (af y2):=ah f 2;have O:(di b q 0 (ab y0) (ab y1) (af y2) (ae ya yl yc)).cell? ⟨q,3,none⟩=some (ae ya yl yc):=ah f 3;simp only[di,de]at M d1 N O;exact az (v:=.tuple #[af nm,.agg #[ab y0,ab y1,af y2,ae ya yl yc],ae ma L d,ab 0]) (by simp[results,results15,go_sem,M,d1,N,O]) rfl ⟨y0,y1,y2,ya,yl,yc,ma,d,rfl,H,P.out▸z.out⟩
def nt(t:Tc)(B:Nat)(y0 y1:Int)(y2:ap)(ya:aw)(yl yc:Nat)(W:ag):Prop:=∃(m:Nat)(x:Tm (m+1)),(x.1=(y0,y1,y2)/\x.2.1=(ya,yc)/\x.2.2.length=yl)/\aB (m+1) x 13 t=true/\In W.heap.size W (m+1) x/\cr (λq=>B<=q/\q<W.heap.size) (m+1) x
theorem nt.kee{t:Tc}{y0 y1:Int}{y2:ap}{ya:aw}{yl yc:Nat}(d:nt t B y0 y1 y2 ya yl yc W)(c:bB S W a)(i:∀q,B<=q->q<W.heap.size->¬S q):nt t B y0 y1 y2 ya yl yc a:=by
 obtain⟨j,k,e,f,g,h⟩:=d;have:=eX c (D:=λq=>B<=q/\q<W.heap.size) (λq b=>i q b.1 b.2) ⟨g,h⟩;exact⟨j,k,e,f,this.1,this.2.mono λq b=>⟨b.1,aW b.2 c.size⟩⟩
def sZ(a:List Tc)(B:Nat)(ma:aw)(W:ag):Prop:=∃ys:List Tc,ys.length=a.length/\fM W.heap.size W 13 ys ma/\ys.map (cn 13)=a/\(∀y∈ys,bE 13 y=0/\cr (λq=>B<=q) 13 y)/\∀g o,ma=some ⟨g,o,none⟩->B<=g
theorem sZ.kee{f:List Tc}{ma:aw}(v:sZ f B ma W)(e:bB S W a)(k:∀q,B<=q->q<W.heap.size->¬S q):sZ f B ma a:=by
 obtain⟨F,A,C,E,n,m⟩:=v;refine⟨F,A,?_,E,n,m⟩;rcases C with s|⟨b,o,t,c,u⟩
 ·exact ai s
 ·subst t;have x:=m b o rfl;refine aj ⟨b,o,rfl,aW c e.size,λz p l=>?_⟩;have w:a.heap[b]?=W.heap[b]? :=e.block b c (k b x c);have d:=u z p l;have y:=eX e (D:=λq=>B<=q/\q<W.heap.size) (λq r=>k q r.1 r.2) ⟨d.2,In.offB (n p (aN l)).2 d.2⟩;refine⟨?_,y.1⟩;obtain⟨g,h,i,j⟩:=d.1;simp only[World.cell?,<-w]at g h i j;exact⟨g,h,i,j⟩
section
variable {p:ke} {s:Sy} {d:fY} {w:ag}
theorem bt.procS(j:bt p s d w){a:Int}{nm:ap}{cs:Tc}{f:List Tc}(F:s.get a=some (nm,cs,f))(R:nm.size<=2048)(al:d.k<=47000):am 15 #[aH p.b,ab a] w λe w'=>∃y0 y1 y2 ya yl yc ma m,e=.returned (.tuple #[af nm,.agg #[ab y0,ab y1,af y2,ae ya yl yc],ae ma f.length m,ab 0])/\Hid ((nt cs w.heap.size y0 y1 y2 ya yl yc w'/\sZ f w.heap.size ma w')/\ak w w'):=by
 obtain⟨n,G⟩:∃n,cZ d.l a=some n:=by
  have:=j.alive a;rw[F]at this;exact fA.1 this
 obtain⟨Y,J,I,C,v,aj⟩:=j.ps a n G;rw[F]at C;obtain⟨rfl,rfl,rfl⟩:nm=Y/\cs=J/\f=I:=by simpa using C
 refine Co p.b d.po a nm (Ar n) f.length w (λy0 y1 y2 ya yl yc h=>nt cs (w.heap.size+1) y0 y1 y2 ya yl yc h) (λy0 y1 y2 ya yl yc ma m w'=>nt cs w.heap.size y0 y1 y2 ya yl yc w'/\sZ f w.heap.size ma w') j.lo.2 j.cells.2.2.2 (λh g=>?_) (λh g=>(v.later g).sname R) (λh g Q=>?_) λy0 y1 y2 ya yl yc h g Q P=>?_
 ·have:=(j.later g).look a true;rw[if_pos rfl,G]at this;exact this
 ·refine((v.later g).state (by omega)).mono ?_;rintro e w' ⟨c,rfl,t⟩;obtain⟨K,D,L,M,N⟩:=t.out;refine⟨c.1.1,c.1.2.1,c.1.2.2,c.2.1.1,c.2.2.length,c.2.1.2,rfl,K,12,c,⟨rfl,rfl,rfl⟩,?_,D,(In.offB L D).mono λq i=>⟨by omega,i.2⟩⟩;rw[<-N];exact dB _ _ _ _ (ex M)
 ·refine((v.later g).mails2 (by omega) (by omega)).mono ?_;rintro e w' ⟨B,ma,m,rfl,t⟩;obtain⟨T,x,U,V,W,X⟩:=t;have an:=x.size;refine⟨ma,m,rfl,x,λai E=>⟨?_,?_⟩⟩
  ·obtain⟨S,aa,y,z,A,r⟩:=(P.kee (aO x λ_=>False) λ_ _ _ i=>i).kee E λq ad ag ah=>by omega
   exact⟨S,aa,y,z,A,r.mono λq i=>⟨by omega,i.2⟩⟩
  ·have O:sZ f h.heap.size ma w':=⟨B,T,U,V,X,λu o e=>W u (by rw[e];rfl)⟩;obtain⟨B,y,z,A,r,Z⟩:=O.kee E λq ad ag ah=>by omega
   exact⟨B,y,z,A,λc H=>⟨(r c H).1,(r c H).2.mono λq i=>by omega⟩,λu o e=>by have:=Z u o e;omega⟩
end
end Go.Proofs.YtmmahddlcldmiaaGreat
