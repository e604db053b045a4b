/- Proved here: plain facts and contracts. No condition but what each names. -/
import Derived.Test.YtmmahddlcldmiaaGreatDoorT23
import Derived.Laws.Tables
namespace Go.Proofs.YtmmahddlcldmiaaGreatDoor
open Go.RowKit Go.Proofs.Tryz
set_option maxHeartbeats 1000000
set_option maxRecDepth 100000
theorem Hd(k b:Int)(s:ByteArray)(a:Option Addr)(l c:Nat)(w:World)(d:(k !=4)=true):am 64 #[.agg #[ab k,ab b,af s,ae a l c]] w λe w'=>e=.returned (.tuple #[af ⟨#[]⟩,ae none 0 0])/\aj w w':=by
 go_enter func64,ntmps64;go_wp2_with fail;exact av (v:=.tuple #[af ⟨#[]⟩,ae none 0 0]) (by simp[results,results64,go_sem]) rfl ⟨rfl,aN⟩
theorem BR(b:Int)(s:ByteArray)(a:Option Addr)(c:Nat)(w:World):am 64 #[.agg #[ab 4,ab b,af s,ae a 0 c]] w λe w'=>e=.returned (.tuple #[af ⟨#[]⟩,ae none 0 0])/\aj w w':=by
 go_enter func64,ntmps64;go_wp2_with fail;exact av (v:=.tuple #[af ⟨#[]⟩,ae none 0 0]) (by simp[results,results64,go_sem]) rfl ⟨rfl,aN⟩
theorem DP(a:Int)(s:ByteArray)(b o l c:Nat)(f:0<l)(y0:Int)(i:(y0 !=2)=true)(w:World)(d:b<w.heap.size)(c0:w.cell? ⟨b,o,none⟩=some (ab y0)):am 64 #[.agg #[ab 4,ab a,af s,ae (some ⟨b,o,none⟩) l c]] w λe w'=>e=.returned (.tuple #[af ⟨#[]⟩,ae none 0 0])/\aj w w':=by
 have g:((l:Int)==0)=false:=by simp;omega
 have h:(0:Int)<(l:Int):=by omega
 go_enter func64,ntmps64;go_wp2_with fail;exact av (v:=.tuple #[af ⟨#[]⟩,ae none 0 0]) (by simp[results,results64,go_sem]) rfl ⟨rfl,aN⟩
theorem Hc(d:Int)(s:ByteArray)(b o l c:Nat)(i:0<l)(p:l<=c)(h:c<=9223372036854775807)(y2:ByteArray)(w:World)(g:b<w.heap.size)(c0:w.cell? ⟨b,o,none⟩=some (ab 2))(f:w.cell? ⟨b,o+2,none⟩=some (af y2)):am 64 #[.agg #[ab 4,ab d,af s,ae (some ⟨b,o,none⟩) l c]] w λe w'=>e=.returned (.tuple #[af y2,ae (if c=1 then some ⟨b,o,none⟩else some ⟨b,o+4,none⟩) (l-1) (c-1)])/\aj w w':=by
 have j:((l:Int)==0)=false:=by simp;omega
 have k:(0:Int)<(l:Int):=by omega
 have m:(1:Int)<=(l:Int):=by omega
 have n:(l:Int)<=(c:Int):=by omega
 by_cases a:c=1
 ·rw[if_pos a];obtain rfl:l=1:=by omega
  subst a;go_enter func64,ntmps64;go_wp2_with fail;go_region
  all_goals go_wp2_with fail
  all_goals exact av (v:=.tuple #[af y2,ae (some ⟨b,o,none⟩) 0 0]) (by simp[results,results64,go_sem]) rfl ⟨rfl,aN.drew⟩
 ·rw[if_neg a];go_enter func64,ntmps64;go_wp2_with fail;go_region
  all_goals go_wp2_with fail
  all_goals exact av (v:=.tuple #[af y2,ae (some ⟨b,o+4,none⟩) (l-1) (c-1)]) (by simp[results,results64,go_sem]) rfl ⟨rfl,aN.drew⟩
def bL(g:Nat)(w w':World):Prop:=(w'.os=w.os/\w'.tape=w.tape/\w'.output=w.output)/\w'.heap.size=w.heap.size/\∀b,b≠g->w'.heap[b]?=w.heap[b]?
theorem bL.refl(g:Nat)(w:World):bL g w w:=⟨⟨rfl,rfl,rfl⟩,rfl,λ_ _=>rfl⟩
theorem bL.set{g:Nat}{w w':World}(a:bL g w w')(o:Nat)(v:Value):bL g w (w'.setCell ⟨g,o,none⟩ v):=
 ⟨a.1,by simpa [World.setCell]using a.2.1,λb c=>by
  have:g≠b:=λd=>c d.symm;rw[<-a.2.2 b c]
  simp[World.setCell,bN,this]⟩
theorem bL.below{g:Nat}{w0 w w':World}(a:bL g w w')(c:aj w0 w)(e:w0.heap.size<=g):aj w0 w':=
 ⟨a.1.1.trans c.os,a.1.2.1.trans c.tape,a.1.2.2.trans c.output,by rw[a.2.1];exact c.size,λb d=>(a.2.2 b (by omega)).trans (c.block b d)⟩
theorem bL.stays{c:Type}{a:Nat->World->c->Prop}{d:(Nat->Prop)->c->Prop}(i:jS a d){g:Nat}{w w':World}(e:bL g w w'){P:Nat->Prop}(h:¬P g){x:c}(l:d P x)(k:a w.heap.size w x):a w'.heap.size w' x:=by
 rw[e.2.1];exact i.2.2.1 P _ w w' x (λb j=>e.2.2 b (λf=>h (f▸j))) l k
theorem ke(g:Nat)(w:World)(v0 v1 v2 v3 b c d e f h a:Value):bL g w (((((((((((w.setCell ⟨g,0,none⟩ v0).setCell ⟨g,1,none⟩ v1).setCell ⟨g,2,none⟩ v2).setCell ⟨g,3,none⟩ v3).setCell ⟨g,4,none⟩ b).setCell ⟨g,5,none⟩ c).setCell ⟨g,6,none⟩ d).setCell ⟨g,7,none⟩ e).setCell ⟨g,8,none⟩ f).setCell ⟨g,9,none⟩ h).setCell ⟨g,10,none⟩ a):=bL.set (bL.set (bL.set (bL.set (bL.set (bL.set (bL.set (bL.set (bL.set (bL.set (bL.set (bL.refl _ _) _ _) _ _) _ _) _ _) _ _) _ _) _ _) _ _) _ _) _ _) _ _
theorem rk(g:Nat)(w:World)(v0 v1 v2 v3 d e f h i j a b c:Value):bL g w (((((((((((((w.setCell ⟨g,0,none⟩ v0).setCell ⟨g,1,none⟩ v1).setCell ⟨g,2,none⟩ v2).setCell ⟨g,3,none⟩ v3).setCell ⟨g,4,none⟩ d).setCell ⟨g,5,none⟩ e).setCell ⟨g,6,none⟩ f).setCell ⟨g,7,none⟩ h).setCell ⟨g,8,none⟩ i).setCell ⟨g,9,none⟩ j).setCell ⟨g,10,none⟩ a).setCell ⟨g,11,none⟩ b).setCell ⟨g,12,none⟩ c):=bL.set (bL.set (bL.set (bL.set (bL.set (bL.set (bL.set (bL.set (bL.set (bL.set (bL.set (bL.set (bL.set (bL.refl _ _) _ _) _ _) _ _) _ _) _ _) _ _) _ _) _ _) _ _) _ _) _ _) _ _) _ _
abbrev nH(M:Nat)(o:Option (Ac (M+1)))(w:World)(e:Ending)(w':World):Prop:=qN (fZ (M+1)) (iA (M+1)) (lT (M+1)) (CW (M+1)) o w e w'
def PR(M:Nat):Ac (M+1):=(0,(zT M,zT M),(.empty,0))
theorem O9(M B:Nat)(w:World):iA (M+1) B w (PR M):=⟨by simp[PR,dt],lp _ _ _,lp _ _ _,aI _,by simp[PR,dt]⟩
theorem qs{M:Nat}{o:Option (Ac (M+1))}{w w':World}(b:o=none)(a:aj w w'):nH M o w (.returned (.tuple #[.agg #[ab 0,ab 0,ab 0,af .empty,ae none 0 0,ab 0,ab 0,af .empty,ae none 0 0,af .empty,ab 0],.bool false])) w':=by
 subst b;exact⟨PR M,false,rfl,a,rfl,O9 _ _ _,⟨ah rfl,ah rfl⟩,λd c=>by cases c⟩
theorem BP{P:Nat->Prop}:(N n:Nat)->n<=N->(x:Tm n)->cd P n x->cd P N (aS N n x)
 | _,0,_,_,k=>k.elim
 | 0,n+1,h,_,_=>by omega
 | N+1,n+1,h,x,k=>by
  rcases k with k|⟨b,o,e,d,k⟩
  ·exact ah (by simp[aS,k])
  ·refine ai ⟨b,o,e,d,λi y a=>?_⟩;simp only[aS,dn]at a;obtain⟨c,f,rfl⟩:=ci.1 a;exact BP N n (by omega) c (k i c f)
theorem iO{M n:Nat}(a:n<=M+1){b y:Tm n}{w':World}{P:Nat->Prop}(c:In w'.heap.size w' n y)(d:cd P n y)(e:ay n y n b=true):In w'.heap.size w' (M+1) (aS (M+1) n y)/\cd P (M+1) (aS (M+1) n y)/\ay (M+1) (aS (M+1) n y) (M+1) (aS (M+1) n b)=true:=
 ⟨oT _ _ a _ _ _ c,BP _ _ a _ d,oS a a e⟩
theorem J5(w:World)(a b c d:Obj):(((((w.alloc a).alloc b).alloc c).alloc d).heap[w.heap.size]?=some a/\((((w.alloc a).alloc b).alloc c).alloc d).heap[w.heap.size+1]?=some b/\((((w.alloc a).alloc b).alloc c).alloc d).heap[w.heap.size+1+1]?=some c/\((((w.alloc a).alloc b).alloc c).alloc d).heap[w.heap.size+1+1+1]?=some d)/\aj w ((((w.alloc a).alloc b).alloc c).alloc d)/\((((w.alloc a).alloc b).alloc c).alloc d).heap.size=w.heap.size+1+1+1+1:=by
 have f:=kj w a b;have e:=kj ((w.alloc a).alloc b) c d;have g:((w.alloc a).alloc b).heap.size=w.heap.size+1+1:=by simp
 rw[g]at e;refine⟨⟨?_,?_,e.1,e.2⟩,by go_grown,by simp⟩
 ·exact(gE _ d (by simp;omega)).trans ((gE _ c (by simp;omega)).trans f.1)
 ·exact(gE _ d (by simp)).trans ((gE _ c (by simp)).trans f.2)
theorem lW{w:World}{q:Nat}{c0 b d e f g h i k l c:Value}{t:TypeId}(a:w.heap[q]?=some (.cells #[c0,b,d,e,f,g,h,i,k,l,c] t)):(w.cell? ⟨q,0,none⟩=some c0/\w.cell? ⟨q,1,none⟩=some b/\w.cell? ⟨q,2,none⟩=some d/\w.cell? ⟨q,3,none⟩=some e/\w.cell? ⟨q,4,none⟩=some f/\w.cell? ⟨q,5,none⟩=some g/\w.cell? ⟨q,6,none⟩=some h/\w.cell? ⟨q,7,none⟩=some i/\w.cell? ⟨q,8,none⟩=some k/\w.cell? ⟨q,9,none⟩=some l/\w.cell? ⟨q,10,none⟩=some c)/\(∀j,w.frozen? ⟨q,j,none⟩=false)/\q<w.heap.size:=
 ⟨⟨au a 0,au a 1,au a 2,au a 3,au a 4,au a 5,au a 6,au a 7,au a 8,au a 9,au a 10⟩,λj=>cQ a j,(aF.1 a).1⟩
theorem nw{M:Nat}{o:Option (Ac (M+1))}{w w2 w':World}{g:Nat}(y e:Ac (M+1))(i:o=some e)(d:bL g w2 w')(a:aj w w2)(f:w.heap.size<=g)(h:iA (M+1) w2.heap.size w2 y)(c:lT (M+1) (λb=>g<b) y)(j:CW (M+1) y e):nH M o w (.returned (.tuple #[.agg (fZ (M+1) y).toArray,.bool true])) w':=by
 subst i;exact⟨y,true,rfl,d.below a f,rfl,d.stays (fD _) (P:=λb=>g<b) (by omega) c h,(fD _).1 _ _ _ (λb a=>by omega) c,λl k=>by obtain rfl:=aw k;exact j⟩
section
variable {P:Program}
end
theorem fW{g:Nat}{w w':World}(a:bL g w w'){b:Nat}(c:b≠g)(o:Nat):w'.cell? ⟨b,o,none⟩=w.cell? ⟨b,o,none⟩:=bt (a.2.2 b c) o
theorem Ni{q:Nat}{w w':World}{v0 v1 v2 v3 b c:Value}(a:bL (q+1+1+1) w w')(k:(w.cell? ⟨q,2,none⟩=some v0/\w.cell? ⟨q+1+1,1,none⟩=some v1)/\w.cell? ⟨q+1,0,none⟩=some v2/\w.cell? ⟨q+1,1,none⟩=some v3/\w.cell? ⟨q+1,2,none⟩=some b/\w.cell? ⟨q+1,3,none⟩=some c):(w'.cell? ⟨q,2,none⟩=some v0/\w'.cell? ⟨q+1+1,1,none⟩=some v1)/\w'.cell? ⟨q+1,0,none⟩=some v2/\w'.cell? ⟨q+1,1,none⟩=some v3/\w'.cell? ⟨q+1,2,none⟩=some b/\w'.cell? ⟨q+1,3,none⟩=some c:=
 ⟨⟨(fW a (by omega) _).trans k.1.1,(fW a (by omega) _).trans k.1.2⟩,(fW a (by omega) _).trans k.2.1,(fW a (by omega) _).trans k.2.2.1,(fW a (by omega) _).trans k.2.2.2.1,(fW a (by omega) _).trans k.2.2.2.2⟩
theorem wO(M n:Nat)(X:n+1<=M+1)(a b c:Tm (n+1))(B:Nat)(w:World)(u:In B w (n+1) a)(x:In B w (n+1) b)(y:In B w (n+1) c)(z:aD ⟨n+1,a⟩)(A:aD ⟨n+1,b⟩)(L:B<=w.heap.size):am 149 #[.agg #[ab a.1.1,ab a.1.2.1,af a.1.2.2,ae a.2.1.1 a.2.2.length a.2.1.2],.agg #[ab b.1.1,ab b.1.2.1,af b.1.2.2,ae b.2.1.1 b.2.2.length b.2.1.2],.agg #[ab c.1.1,ab c.1.2.1,af c.1.2.2,ae c.2.1.1 c.2.2.length c.2.1.2]] w (nH M (zO M (n+1) a b c) w):=by
 obtain⟨o,i⟩:∃o,o=zO M (n+1) a b c:=⟨_,rfl⟩;rw[<-i];by_cases f:a.1.1=2
 ·by_cases m:c.1.1=5
  ·have q:Hid (o=some (2,(zT M,aS (M+1) (n+1) b),(a.1.2.2,c.1.2.1))):=by
     show _=_;rw[i];simp[zO,bU,f,m,xH,pF,gg,bw]
   clear i;have K:(a.1.1 !=2)=false:=by simp[f]
   have S:(c.1.1 !=5)=false:=by simp[m]
   have Y:a.1.2.2.size<=2048:=by
    have:=z (bw n a) (by simp[ax,bw]);have U:dF a.1.2.2=true:=by
     simp only[cg,bw,f]at this;simp at this;exact this.1.1
    simp only[dF,oe,aA,bO]at U;omega
   have O:Hid (∀j,aj w j->am 24 #[.agg #[ab b.1.1,ab b.1.2.1,af b.1.2.2,ae b.2.1.1 b.2.2.length b.2.1.2]] j λl e=>∃d:Tm (n+1),l=.returned (.agg #[ab d.1.1,ab d.1.2.1,af d.1.2.2,ae d.2.1.1 d.2.2.length d.2.1.2])/\Hid (aj j e/\In e.heap.size e (n+1) d/\cd (λC=>j.heap.size<=C) (n+1) d/\ay (n+1) d (n+1) b=true)):=
    λj t=>ie (n+1) b B j (x.below (t.mono L)) (az L t.size) A
   have J:Hid (a.1.2.2.size<=maxLen/\dt c.1.2.1):=⟨u.1.2.2.1,y.1.2.1⟩;clear u x y z A f m;go_enter func149,ntmps149;go_wp2_with fail;have h:=aq (J5 w (.cells #[ab a.1.1,ab a.1.2.1,af a.1.2.2,ae a.2.1.1 a.2.2.length a.2.1.2] 28) (.cells #[ab b.1.1,ab b.1.2.1,af b.1.2.2,ae b.2.1.1 b.2.2.length b.2.1.2] 28) (.cells #[ab c.1.1,ab c.1.2.1,af c.1.2.2,ae c.2.1.1 c.2.2.length c.2.1.2] 28) (.cells #[ab 0,ab 0,ab 0,af ⟨#[]⟩,ae none 0 0,ab 0,ab 0,af ⟨#[]⟩,ae none 0 0,af ⟨#[]⟩,ab 0] 208));generalize N:(((w.alloc _).alloc _).alloc _).alloc _=F;rw[N]at h;clear N;have p:Hid (∀e,aj F e->(e.cell? ⟨w.heap.size,2,none⟩=some (af a.1.2.2)/\e.cell? ⟨w.heap.size+1+1,1,none⟩=some (ab c.1.2.1))/\e.cell? ⟨w.heap.size+1,0,none⟩=some (ab b.1.1)/\e.cell? ⟨w.heap.size+1,1,none⟩=some (ab b.1.2.1)/\e.cell? ⟨w.heap.size+1,2,none⟩=some (af b.1.2.2)/\e.cell? ⟨w.heap.size+1,3,none⟩=some (ae b.2.1.1 b.2.2.length b.2.1.2)):=λe G=>by
    have l:=h.2.2;have t:=(G.block w.heap.size (by omega)).trans h.1.1;have f:=(G.block (w.heap.size+1) (by omega)).trans h.1.2.1;have T:=(G.block (w.heap.size+1+1) (by omega)).trans h.1.2.2.1;exact⟨⟨au t 2,au T 1⟩,au f 0,au f 1,au f 2,au f 3⟩
   obtain⟨⟨Z,ak⟩,aa,ad,ag,ai⟩:=p.out F (ap _ _)
   go_region_held3 (λe=>(e.cell? ⟨w.heap.size,2,none⟩=some (af a.1.2.2)/\e.cell? ⟨w.heap.size+1+1,1,none⟩=some (ab c.1.2.1))/\e.cell? ⟨w.heap.size+1,0,none⟩=some (ab b.1.1)/\e.cell? ⟨w.heap.size+1,1,none⟩=some (ab b.1.2.1)/\e.cell? ⟨w.heap.size+1,2,none⟩=some (af b.1.2.2)/\e.cell? ⟨w.heap.size+1,3,none⟩=some (ae b.2.1.1 b.2.2.length b.2.1.2)) (first|with_reducible assumption|with_reducible exact p.out _ r.out|with_reducible exact p.out _ D.out|with_reducible exact P.out _ (ke _ _ _ _ _ _ _ _ _ _ _ _ _)|exact p.out _ (ap _ _).drew)
    ((first
     | (go_at_call 24;refine(O _ h.2.1.drew).mono ?_;rintro l j ⟨d,rfl,s⟩;have D:=aq (cH s.1))
     | (go_at_call 55;refine(dR _ _ Y).mono ?_;rintro l w2 ⟨rfl,H⟩;have I:=aq H;have r:=aq (D.trans (H.mono D.size));have Q:=aq ((r.block (w.heap.size+1+1+1) (by have:=h.2.2;omega)).trans h.1.2.2.2);clear H;obtain⟨⟨d0,d1,d2,d3,d4,d5,d6,d7,d8,d9,d10⟩,f0,an⟩:=lW Q;have P:=aq (λR (W:bL (w.heap.size+1+1+1) w2 R)=>Ni W (p _ r)))))
   go_wp2_with fail;have E:=iO (M:=M) X ((s.2.1.below I).mono I.size) (s.2.2.1.mono λC (al:F.heap.size<=C)=>(show w.heap.size+1+1+1<C by have:=h.2.2;omega)) s.2.2.2;refine av (v:=.tuple #[.agg #[ab 2,ab 0,ab 0,af ⟨#[]⟩,ae none 0 0,ab d.1.1,ab d.1.2.1,af d.1.2.2,ae d.2.1.1 d.2.2.length d.2.1.2,af a.1.2.2,ab c.1.2.1],.bool true]) (by simp[results,results149,go_sem,d0,d1,d2,d3,d4,d5,d6,d7,d8,d9,d10]) rfl ?_;have l:fZ (M+1) (2,(zT M,aS (M+1) (n+1) d),(a.1.2.2,c.1.2.1))=[ab 2,ab 0,ab 0,af ⟨#[]⟩,ae none 0 0,ab d.1.1,ab d.1.2.1,af d.1.2.2,ae d.2.1.1 d.2.2.length d.2.1.2,af a.1.2.2,ab c.1.2.1]:=by
    show ab 2::(il (M+1) (zT M)++il (M+1) (aS (M+1) (n+1) d)++ [af a.1.2.2,ab c.1.2.1])=_;rw[gm];rfl
   have k:=λ(e:World)(V:bL (w.heap.size+1+1+1) w2 e)=>nw (g:=w.heap.size+1+1+1) (w2:=w2) (2,(zT M,aS (M+1) (n+1) d),(a.1.2.2,c.1.2.1)) (2,(zT M,aS (M+1) (n+1) b),(a.1.2.2,c.1.2.1)) q (w:=w) V (h.2.1.trans (r.mono h.2.1.size)) (by omega) ⟨by simp[dt],lp _ _ _,E.1,J.1,J.2⟩ ⟨ah rfl,E.2.1⟩ ⟨rfl,lF (lp _ 0 w),E.2.2,rfl⟩;rw[l]at k;exact k _ (ke _ _ _ _ _ _ _ _ _ _ _ _ _)
  ·have K:(a.1.1 !=2)=false:=by simp[f]
   have S:(c.1.1 !=5)=true:=by simp[m]
   have q:Hid (o=none):=by
    show _=_;rw[i];simp[zO,bU,m]
   clear i;clear u x y z A f m;go_enter func149,ntmps149;go_wp2_with fail;exact av (v:=.tuple #[.agg #[ab 0,ab 0,ab 0,af .empty,ae none 0 0,ab 0,ab 0,af .empty,ae none 0 0,af .empty,ab 0],.bool false]) (by simp[results,results149,go_sem];rfl) rfl (qs q (by go_grown))
 ·have K:(a.1.1 !=2)=true:=by simp[f]
  have q:Hid (o=none):=by
   show _=_;rw[i];simp[zO,bU,f]
  clear i;clear u x y z A f;go_enter func149,ntmps149;go_wp2_with fail;exact av (v:=.tuple #[.agg #[ab 0,ab 0,ab 0,af .empty,ae none 0 0,ab 0,ab 0,af .empty,ae none 0 0,af .empty,ab 0],.bool false]) (by simp[results,results149,go_sem];rfl) rfl (qs q (by go_grown))
end Go.Proofs.YtmmahddlcldmiaaGreatDoor
