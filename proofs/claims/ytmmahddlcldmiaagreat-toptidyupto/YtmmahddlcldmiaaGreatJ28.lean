/- Proved here: plain facts and contracts. No condition but what each names. -/
import Derived.Test.YtmmahddlcldmiaaGreatJ27
import Derived.Laws.Tables
namespace Go.Proofs.YtmmahddlcldmiaaGreat
open Go.RowKit Tryz
set_option maxHeartbeats 1000000
set_option maxRecDepth 100000
theorem G7(k u:Int)(s:ap)(a:aw)(l c:Nat)(w:ag)(b:(k !=4)=true):am 104 #[.agg #[ab k,ab u,af s,ae a l c]] w λe w'=>e=.returned (.tuple #[af ⟨#[]⟩,ae none 0 0])/\ak w w':=by
 go_enter func104,ntmps104;go_wp2_with fail;exact az (v:=.tuple #[af ⟨#[]⟩,ae none 0 0]) (by simp[results,results104,go_sem]) rfl ⟨rfl,aV⟩
theorem BN(u:Int)(s:ap)(a:aw)(c:Nat)(w:ag):am 104 #[.agg #[ab 4,ab u,af s,ae a 0 c]] w λe w'=>e=.returned (.tuple #[af ⟨#[]⟩,ae none 0 0])/\ak w w':=by
 go_enter func104,ntmps104;go_wp2_with fail;exact az (v:=.tuple #[af ⟨#[]⟩,ae none 0 0]) (by simp[results,results104,go_sem]) rfl ⟨rfl,aV⟩
theorem DQ(u:Int)(s:ap)(b o l c:Nat)(d:0<l)(y0:Int)(h:(y0 !=2)=true)(w:ag)(a:b<w.heap.size)(c0:w.cell? ⟨b,o,none⟩=some (ab y0)):am 104 #[.agg #[ab 4,ab u,af s,ae (some ⟨b,o,none⟩) l c]] w λe w'=>e=.returned (.tuple #[af ⟨#[]⟩,ae none 0 0])/\ak w w':=by
 have f:((l:Int)==0)=false:=by simp;omega
 have g:(0:Int)<(l:Int):=by omega
 go_enter func104,ntmps104;go_wp2_with fail;exact az (v:=.tuple #[af ⟨#[]⟩,ae none 0 0]) (by simp[results,results104,go_sem]) rfl ⟨rfl,aV⟩
theorem G6(u:Int)(s:ap)(b o l c:Nat)(h:0<l)(n:l<=c)(g:c<=9223372036854775807)(y2:ap)(w:ag)(f:b<w.heap.size)(c0:w.cell? ⟨b,o,none⟩=some (ab 2))(d:w.cell? ⟨b,o+2,none⟩=some (af y2)):am 104 #[.agg #[ab 4,ab u,af s,ae (some ⟨b,o,none⟩) l c]] w λe w'=>e=.returned (.tuple #[af y2,ae (if c=1 then some ⟨b,o,none⟩else some ⟨b,o+4,none⟩) (l-1) (c-1)])/\ak w w':=by
 have i:((l:Int)==0)=false:=by simp;omega
 have j:(0:Int)<(l:Int):=by omega
 have k:(1:Int)<=(l:Int):=by omega
 have m:(l:Int)<=(c:Int):=by omega
 by_cases a:c=1
 ·rw[if_pos a];obtain rfl:l=1:=by omega
  subst a;go_enter func104,ntmps104;go_wp2_with fail;go_region
  all_goals go_wp2_with fail
  all_goals exact az (v:=.tuple #[af y2,ae (some ⟨b,o,none⟩) 0 0]) (by simp[results,results104,go_sem]) rfl ⟨rfl,aV.drew⟩
 ·rw[if_neg a];go_enter func104,ntmps104;go_wp2_with fail;go_region
  all_goals go_wp2_with fail
  all_goals exact az (v:=.tuple #[af y2,ae (some ⟨b,o+4,none⟩) (l-1) (c-1)]) (by simp[results,results104,go_sem]) rfl ⟨rfl,aV.drew⟩
def bP(g:Nat)(w w':ag):Prop:=(w'.os=w.os/\w'.tape=w.tape/\w'.output=w.output)/\w'.heap.size=w.heap.size/\∀b,b≠g->w'.heap[b]?=w.heap[b]?
theorem bP.refl(g:Nat)(w:ag):bP g w w:=⟨⟨rfl,rfl,rfl⟩,rfl,λ_ _=>rfl⟩
variable{M g q:Nat}{P:aR}{w w':ag}{a b:av}
theorem bP.set(a:bP g w w')(o:Nat)(v:av):bP g w (w'.setCell ⟨g,o,none⟩ v):=
 ⟨a.1,by simpa [World.setCell]using a.2.1,λb c=>by
  have:g≠b:=λd=>c d.symm;rw[<-a.2.2 b c]
  simp[World.setCell,bO,this]⟩
theorem bP.below{w0:ag}(a:bP g w w')(c:ak w0 w)(e:w0.heap.size<=g):ak w0 w':=
 ⟨a.1.1.trans c.os,a.1.2.1.trans c.tape,a.1.2.2.trans c.output,by rw[a.2.1];exact c.size,λb d=>(a.2.2 b (by omega)).trans (c.block b d)⟩
theorem bP.stays{c:Type}{a:Nat->ag->c->Prop}{d:(Nat->Prop)->c->Prop}(i:jZ a d)(e:bP g w w')(h:¬P g){x:c}(l:d P x)(k:a w.heap.size w x):a w'.heap.size w' x:=by
 rw[e.2.1];exact i.2.2.1 P _ w w' x (λb j=>e.2.2 b (λf=>h (f▸j))) l k
theorem ku(g:Nat)(w:ag)(v0 v1 v2 v3 b c d e f h a:av):bP g w (((((((((((w.setCell ⟨g,0,none⟩ v0).setCell ⟨g,1,none⟩ v1).setCell ⟨g,2,none⟩ v2).setCell ⟨g,3,none⟩ v3).setCell ⟨g,4,none⟩ b).setCell ⟨g,5,none⟩ c).setCell ⟨g,6,none⟩ d).setCell ⟨g,7,none⟩ e).setCell ⟨g,8,none⟩ f).setCell ⟨g,9,none⟩ h).setCell ⟨g,10,none⟩ a):=bP.set (bP.set (bP.set (bP.set (bP.set (bP.set (bP.set (bP.set (bP.set (bP.set (bP.set (bP.refl _ _) _ _) _ _) _ _) _ _) _ _) _ _) _ _) _ _) _ _) _ _) _ _
theorem rC(g:Nat)(w:ag)(v0 v1 v2 v3 d e f h i j a b c:av):bP g w (((((((((((((w.setCell ⟨g,0,none⟩ v0).setCell ⟨g,1,none⟩ v1).setCell ⟨g,2,none⟩ v2).setCell ⟨g,3,none⟩ v3).setCell ⟨g,4,none⟩ d).setCell ⟨g,5,none⟩ e).setCell ⟨g,6,none⟩ f).setCell ⟨g,7,none⟩ h).setCell ⟨g,8,none⟩ i).setCell ⟨g,9,none⟩ j).setCell ⟨g,10,none⟩ a).setCell ⟨g,11,none⟩ b).setCell ⟨g,12,none⟩ c):=bP.set (bP.set (bP.set (bP.set (bP.set (bP.set (bP.set (bP.set (bP.set (bP.set (bP.set (bP.set (bP.set (bP.refl _ _) _ _) _ _) _ _) _ _) _ _) _ _) _ _) _ _) _ _) _ _) _ _) _ _) _ _
abbrev nQ(M:Nat)(o:Option (Ac (M+1)))(w:ag)(e:Ending)(w':ag):Prop:=qW (gi (M+1)) (iJ (M+1)) (mg (M+1)) (CX (M+1)) o w e w'
def PB(M:Nat):Ac (M+1):=(0,(zT M,zT M),(.empty,0))
theorem OQ(M B:Nat)(w:ag):iJ (M+1) B w (PB M):=⟨by simp[PB,dC],lF _ _ _,lF _ _ _,aL _,by simp[PB,dC]⟩
theorem qA{o:Option (Ac (M+1))}(b:o=none)(a:ak w w'):nQ M o w (.returned (.tuple #[.agg #[ab 0,ab 0,ab 0,af .empty,ae none 0 0,ab 0,ab 0,af .empty,ae none 0 0,af .empty,ab 0],.bool false])) w':=by
 subst b;exact⟨PB M,false,rfl,a,rfl,OQ _ _ _,⟨ai rfl,ai rfl⟩,λd c=>by cases c⟩
theorem BK{P:aR}:(N n:Nat)->n<=N->(x:Tm n)->cr P n x->cr P N (aY N n x)
 | _,0,_,_,k=>k.elim
 | 0,n+1,h,_,_=>by omega
 | N+1,n+1,h,x,k=>by
  rcases k with k|⟨b,o,e,d,k⟩
  ·exact ai (by simp[aY,k])
  ·refine aj ⟨b,o,e,d,λi y a=>?_⟩;simp only[aY,dy]at a;obtain⟨c,f,rfl⟩:=cw.1 a;exact BK N n (by omega) c (k i c f)
theorem iY{n:Nat}(a:n<=M+1){b y:Tm n}(c:In w'.heap.size w' n y)(d:cr P n y)(e:aB n y n b=true):In w'.heap.size w' (M+1) (aY (M+1) n y)/\cr P (M+1) (aY (M+1) n y)/\aB (M+1) (aY (M+1) n y) (M+1) (aY (M+1) n b)=true:=
 ⟨oX _ _ a _ _ _ c,BK _ _ a _ d,oW a a e⟩
theorem JK(w:ag)(a b c d:Obj):(((((w.alloc a).alloc b).alloc c).alloc d).heap[w.heap.size]?=some a/\((((w.alloc a).alloc b).alloc c).alloc d).heap[w.heap.size+1]?=some b/\((((w.alloc a).alloc b).alloc c).alloc d).heap[w.heap.size+1+1]?=some c/\((((w.alloc a).alloc b).alloc c).alloc d).heap[w.heap.size+1+1+1]?=some d)/\ak w ((((w.alloc a).alloc b).alloc c).alloc d)/\((((w.alloc a).alloc b).alloc c).alloc d).heap.size=w.heap.size+1+1+1+1:=by
 have f:=kw w a b;have e:=kw ((w.alloc a).alloc b) c d;have g:((w.alloc a).alloc b).heap.size=w.heap.size+1+1:=by simp
 rw[g]at e;refine⟨⟨?_,?_,e.1,e.2⟩,by go_grown,by simp⟩
 ·exact(gL _ d (by simp;omega)).trans ((gL _ c (by simp;omega)).trans f.1)
 ·exact(gL _ d (by simp)).trans ((gL _ c (by simp)).trans f.2)
theorem mj{c0 e f g h i k l d:av}{t:TypeId}(c:w.heap[q]?=some (.cells #[c0,a,b,e,f,g,h,i,k,l,d] t)):(w.cell? ⟨q,0,none⟩=some c0/\w.cell? ⟨q,1,none⟩=some a/\w.cell? ⟨q,2,none⟩=some b/\w.cell? ⟨q,3,none⟩=some e/\w.cell? ⟨q,4,none⟩=some f/\w.cell? ⟨q,5,none⟩=some g/\w.cell? ⟨q,6,none⟩=some h/\w.cell? ⟨q,7,none⟩=some i/\w.cell? ⟨q,8,none⟩=some k/\w.cell? ⟨q,9,none⟩=some l/\w.cell? ⟨q,10,none⟩=some d)/\(∀j,w.frozen? ⟨q,j,none⟩=false)/\q<w.heap.size:=
 ⟨⟨ay c 0,ay c 1,ay c 2,ay c 3,ay c 4,ay c 5,ay c 6,ay c 7,ay c 8,ay c 9,ay c 10⟩,λj=>dc c j,(aJ.1 c).1⟩
theorem nG{o:Option (Ac (M+1))}{w2:ag}(y e:Ac (M+1))(i:o=some e)(d:bP g w2 w')(a:ak w w2)(f:w.heap.size<=g)(h:iJ (M+1) w2.heap.size w2 y)(c:mg (M+1) (λb=>g<b) y)(j:CX (M+1) y e):nQ M o w (.returned (.tuple #[.agg (gi (M+1) y).toArray,.bool true])) w':=by
 subst i;exact⟨y,true,rfl,d.below a f,rfl,d.stays (fO _) (P:=λb=>g<b) (by omega) c h,(fO _).1 _ _ _ (λb a=>by omega) c,λl k=>by obtain rfl:=aA k;exact j⟩
section
variable {P:Program}
end
theorem ge(a:bP g w w'){b:Nat}(c:b≠g)(o:Nat):w'.cell? ⟨b,o,none⟩=w.cell? ⟨b,o,none⟩:=bD (a.2.2 b c) o
theorem MY{v0 v1 v2 v3:av}(c:bP (q+1+1+1) w w')(k:(w.cell? ⟨q,2,none⟩=some v0/\w.cell? ⟨q+1+1,1,none⟩=some v1)/\w.cell? ⟨q+1,0,none⟩=some v2/\w.cell? ⟨q+1,1,none⟩=some v3/\w.cell? ⟨q+1,2,none⟩=some a/\w.cell? ⟨q+1,3,none⟩=some b):(w'.cell? ⟨q,2,none⟩=some v0/\w'.cell? ⟨q+1+1,1,none⟩=some v1)/\w'.cell? ⟨q+1,0,none⟩=some v2/\w'.cell? ⟨q+1,1,none⟩=some v3/\w'.cell? ⟨q+1,2,none⟩=some a/\w'.cell? ⟨q+1,3,none⟩=some b:=
 ⟨⟨(ge c (by omega) _).trans k.1.1,(ge c (by omega) _).trans k.1.2⟩,(ge c (by omega) _).trans k.2.1,(ge c (by omega) _).trans k.2.2.1,(ge c (by omega) _).trans k.2.2.2.1,(ge c (by omega) _).trans k.2.2.2.2⟩
theorem wR(M n:Nat)(ap:n+1<=M+1)(a b c:Tm (n+1))(B:Nat)(w:ag)(u:In B w (n+1) a)(x:In B w (n+1) b)(y:In B w (n+1) c)(z:aI ⟨n+1,a⟩)(A:aI ⟨n+1,b⟩)(L:B<=w.heap.size):am 196 #[.agg #[ab a.1.1,ab a.1.2.1,af a.1.2.2,ae a.2.1.1 a.2.2.length a.2.1.2],.agg #[ab b.1.1,ab b.1.2.1,af b.1.2.2,ae b.2.1.1 b.2.2.length b.2.1.2],.agg #[ab c.1.1,ab c.1.2.1,af c.1.2.2,ae c.2.1.1 c.2.2.length c.2.1.2]] w (nQ M (zM M (n+1) a b c) w):=by
 obtain⟨o,i⟩:∃o,o=zM M (n+1) a b c:=⟨_,rfl⟩;rw[<-i];by_cases f:a.1.1=2
 ·by_cases m:c.1.1=5
  ·have q:Hid (o=some (2,(zT M,aY (M+1) (n+1) b),(a.1.2.2,c.1.2.1))):=by
     show _=_;rw[i];simp[zM,b8,f,m,xC,pO,gu,bI]
   clear i;have K:(a.1.1 !=2)=false:=by simp[f]
   have ah:(c.1.1 !=5)=false:=by simp[m]
   have ar:a.1.2.2.size<=2048:=by
    have:=z (bI n a) (by simp[aC,bI]);have al:dV a.1.2.2=true:=by
     simp only[cJ,bI,f]at this;simp at this;exact this.1.1
    simp only[dV,qP,aK,co]at al;omega
   have O:Hid (∀j,ak w j->am 56 #[.agg #[ab b.1.1,ab b.1.2.1,af b.1.2.2,ae b.2.1.1 b.2.2.length b.2.1.2]] j λl e=>∃d:Tm (n+1),l=.returned (.agg #[ab d.1.1,ab d.1.2.1,af d.1.2.2,ae d.2.1.1 d.2.2.length d.2.1.2])/\Hid (ak j e/\In e.heap.size e (n+1) d/\cr (λC=>j.heap.size<=C) (n+1) d/\aB (n+1) d (n+1) b=true)):=
    λj t=>ip (n+1) b B j (x.below (t.mono L)) (aD L t.size) A
   have J:Hid (a.1.2.2.size<=maxLen/\dC c.1.2.1):=⟨u.1.2.2.1,y.1.2.1⟩;clear u x y z A f m;go_enter func196,ntmps196;go_wp2_with fail;have h:=au (JK w (.cells #[ab a.1.1,ab a.1.2.1,af a.1.2.2,ae a.2.1.1 a.2.2.length a.2.1.2] 31) (.cells #[ab b.1.1,ab b.1.2.1,af b.1.2.2,ae b.2.1.1 b.2.2.length b.2.1.2] 31) (.cells #[ab c.1.1,ab c.1.2.1,af c.1.2.2,ae c.2.1.1 c.2.2.length c.2.1.2] 31) (.cells #[ab 0,ab 0,ab 0,af ⟨#[]⟩,ae none 0 0,ab 0,ab 0,af ⟨#[]⟩,ae none 0 0,af ⟨#[]⟩,ab 0] 248));generalize N:(((w.alloc _).alloc _).alloc _).alloc _=F;rw[N]at h;clear N;have p:Hid (∀e,ak F e->(e.cell? ⟨w.heap.size,2,none⟩=some (af a.1.2.2)/\e.cell? ⟨w.heap.size+1+1,1,none⟩=some (ab c.1.2.1))/\e.cell? ⟨w.heap.size+1,0,none⟩=some (ab b.1.1)/\e.cell? ⟨w.heap.size+1,1,none⟩=some (ab b.1.2.1)/\e.cell? ⟨w.heap.size+1,2,none⟩=some (af b.1.2.2)/\e.cell? ⟨w.heap.size+1,3,none⟩=some (ae b.2.1.1 b.2.2.length b.2.1.2)):=λe G=>by
    have l:=h.2.2;have t:=(G.block w.heap.size (by omega)).trans h.1.1;have f:=(G.block (w.heap.size+1) (by omega)).trans h.1.2.1;have aj:=(G.block (w.heap.size+1+1) (by omega)).trans h.1.2.2.1;exact⟨⟨ay t 2,ay aj 1⟩,ay f 0,ay f 1,ay f 2,ay f 3⟩
   obtain⟨⟨av,aF⟩,aw,ax,aA,aE⟩:=p.out F (aq _ _)
   go_region_held3 (λe=>(e.cell? ⟨w.heap.size,2,none⟩=some (af a.1.2.2)/\e.cell? ⟨w.heap.size+1+1,1,none⟩=some (ab c.1.2.1))/\e.cell? ⟨w.heap.size+1,0,none⟩=some (ab b.1.1)/\e.cell? ⟨w.heap.size+1,1,none⟩=some (ab b.1.2.1)/\e.cell? ⟨w.heap.size+1,2,none⟩=some (af b.1.2.2)/\e.cell? ⟨w.heap.size+1,3,none⟩=some (ae b.2.1.1 b.2.2.length b.2.1.2)) (first|with_reducible assumption|with_reducible exact p.out _ r.out|with_reducible exact p.out _ D.out|with_reducible exact P.out _ (ku _ _ _ _ _ _ _ _ _ _ _ _ _)|exact p.out _ (aq _ _).drew)
    ((first
     | (go_at_call 56;refine(O _ h.2.1.drew).mono ?_;rintro l j ⟨d,rfl,s⟩;have D:=au (cR s.1))
     | (go_at_call 63;refine(dW _ _ ar).mono ?_;rintro l w2 ⟨rfl,H⟩;have I:=au H;have r:=au (D.trans (H.mono D.size));have Q:=au ((r.block (w.heap.size+1+1+1) (by have:=h.2.2;omega)).trans h.1.2.2.2);clear H;obtain⟨⟨S,d1,U,V,W,X,Y,Z,aa,ad,T⟩,aG,aJ⟩:=mj Q;have P:=au (λR (ao:bP (w.heap.size+1+1+1) w2 R)=>MY ao (p _ r)))))
   go_wp2_with fail;have E:=iY (M:=M) ap ((s.2.1.below I).mono I.size) (s.2.2.1.mono λC (aH:F.heap.size<=C)=>(show w.heap.size+1+1+1<C by have:=h.2.2;omega)) s.2.2.2;refine az (v:=.tuple #[.agg #[ab 2,ab 0,ab 0,af ⟨#[]⟩,ae none 0 0,ab d.1.1,ab d.1.2.1,af d.1.2.2,ae d.2.1.1 d.2.2.length d.2.1.2,af a.1.2.2,ab c.1.2.1],.bool true]) (by simp[results,results196,go_sem,S,d1,U,V,W,X,Y,Z,aa,ad,T]) rfl ?_;have l:gi (M+1) (2,(zT M,aY (M+1) (n+1) d),(a.1.2.2,c.1.2.1))=[ab 2,ab 0,ab 0,af ⟨#[]⟩,ae none 0 0,ab d.1.1,ab d.1.2.1,af d.1.2.2,ae d.2.1.1 d.2.2.length d.2.1.2,af a.1.2.2,ab c.1.2.1]:=by
    show ab 2::(iy (M+1) (zT M)++iy (M+1) (aY (M+1) (n+1) d)++ [af a.1.2.2,ab c.1.2.1])=_;rw[gA];rfl
   have k:=λ(e:ag)(an:bP (w.heap.size+1+1+1) w2 e)=>nG (g:=w.heap.size+1+1+1) (w2:=w2) (2,(zT M,aY (M+1) (n+1) d),(a.1.2.2,c.1.2.1)) (2,(zT M,aY (M+1) (n+1) b),(a.1.2.2,c.1.2.1)) q (w:=w) an (h.2.1.trans (r.mono h.2.1.size)) (by omega) ⟨by simp[dC],lF _ _ _,E.1,J.1,J.2⟩ ⟨ai rfl,E.2.1⟩ ⟨rfl,lQ (lF _ 0 w),E.2.2,rfl⟩;rw[l]at k;exact k _ (ku _ _ _ _ _ _ _ _ _ _ _ _ _)
  ·have K:(a.1.1 !=2)=false:=by simp[f]
   have ah:(c.1.1 !=5)=true:=by simp[m]
   have q:Hid (o=none):=by
    show _=_;rw[i];simp[zM,b8,m]
   clear i;clear u x y z A f m;go_enter func196,ntmps196;go_wp2_with fail;exact az (v:=.tuple #[.agg #[ab 0,ab 0,ab 0,af .empty,ae none 0 0,ab 0,ab 0,af .empty,ae none 0 0,af .empty,ab 0],.bool false]) (by simp[results,results196,go_sem];rfl) rfl (qA q (by go_grown))
 ·have K:(a.1.1 !=2)=true:=by simp[f]
  have q:Hid (o=none):=by
   show _=_;rw[i];simp[zM,b8,f]
  clear i;clear u x y z A f;go_enter func196,ntmps196;go_wp2_with fail;exact az (v:=.tuple #[.agg #[ab 0,ab 0,ab 0,af .empty,ae none 0 0,ab 0,ab 0,af .empty,ae none 0 0,af .empty,ab 0],.bool false]) (by simp[results,results196,go_sem];rfl) rfl (qA q (by go_grown))
end Go.Proofs.YtmmahddlcldmiaaGreat
