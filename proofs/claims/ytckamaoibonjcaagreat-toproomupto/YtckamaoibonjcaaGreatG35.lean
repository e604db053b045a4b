/- What is proved here: plain facts and contracts that the claimed theorem stands on. No condition but those that each names. -/
import Derived.Test.YtckamaoibonjcaaGreatG34
import Derived.Laws.Tables
namespace Go.Proofs.YtckamaoibonjcaaGreat
open Go.RowKit
set_option maxHeartbeats 1000000
set_option maxRecDepth 100000
theorem FW(k b:Int)(s:ByteArray)(a:Option Addr)(l c:Nat)(w:World)(d:(k !=4)=true):am 90 #[.agg #[ab k,ab b,af s,ae a l c]] w λe w'=>e=.returned (.tuple #[af ⟨#[]⟩,ae none 0 0])/\aj w w':=by
 go_enter Tryz.func90,Tryz.ntmps90;go_wp2_with fail;exact av (v:=.tuple #[af ⟨#[]⟩,ae none 0 0]) (by simp[results,Tryz.results90,go_sem]) rfl ⟨rfl,aM⟩
theorem AS(b:Int)(s:ByteArray)(a:Option Addr)(c:Nat)(w:World):am 90 #[.agg #[ab 4,ab b,af s,ae a 0 c]] w λe w'=>e=.returned (.tuple #[af ⟨#[]⟩,ae none 0 0])/\aj w w':=by
 go_enter Tryz.func90,Tryz.ntmps90;go_wp2_with fail;exact av (v:=.tuple #[af ⟨#[]⟩,ae none 0 0]) (by simp[results,Tryz.results90,go_sem]) rfl ⟨rfl,aM⟩
theorem CU(a:Int)(s:ByteArray)(b o l c:Nat)(f:0<l)(y0:Int)(i:(y0 !=2)=true)(w:World)(d:b<w.heap.size)(c0:w.cell? ⟨b,o,none⟩=some (ab y0)):am 90 #[.agg #[ab 4,ab a,af s,ae (some ⟨b,o,none⟩) l c]] w λe w'=>e=.returned (.tuple #[af ⟨#[]⟩,ae none 0 0])/\aj w w':=by
 have g:((l:Int)==0)=false:=by simp;omega
 have h:(0:Int)<(l:Int):=by omega
 go_enter Tryz.func90,Tryz.ntmps90;go_wp2_with fail;exact av (v:=.tuple #[af ⟨#[]⟩,ae none 0 0]) (by simp[results,Tryz.results90,go_sem]) rfl ⟨rfl,aM⟩
theorem FV(d:Int)(s:ByteArray)(b o l c:Nat)(i:0<l)(p:l<=c)(h:c<=9223372036854775807)(y2:ByteArray)(w:World)(g:b<w.heap.size)(c0:w.cell? ⟨b,o,none⟩=some (ab 2))(f:w.cell? ⟨b,o+2,none⟩=some (af y2)):am 90 #[.agg #[ab 4,ab d,af s,ae (some ⟨b,o,none⟩) l c]] w λe w'=>e=.returned (.tuple #[af y2,ae (if c=1 then some ⟨b,o,none⟩else some ⟨b,o+4,none⟩) (l-1) (c-1)])/\aj w w':=by
 have j:((l:Int)==0)=false:=by simp;omega
 have k:(0:Int)<(l:Int):=by omega
 have m:(1:Int)<=(l:Int):=by omega
 have n:(l:Int)<=(c:Int):=by omega
 by_cases a:c=1
 ·rw[if_pos a];obtain rfl:l=1:=by omega
  subst a;go_enter Tryz.func90,Tryz.ntmps90;go_wp2_with fail;go_region
  all_goals go_wp2_with fail
  all_goals exact av (v:=.tuple #[af y2,ae (some ⟨b,o,none⟩) 0 0]) (by simp[results,Tryz.results90,go_sem]) rfl ⟨rfl,aM.drew⟩
 ·rw[if_neg a];go_enter Tryz.func90,Tryz.ntmps90;go_wp2_with fail;go_region
  all_goals go_wp2_with fail
  all_goals exact av (v:=.tuple #[af y2,ae (some ⟨b,o+4,none⟩) (l-1) (c-1)]) (by simp[results,Tryz.results90,go_sem]) rfl ⟨rfl,aM.drew⟩
def bE(g:Nat)(w w':World):Prop:=(w'.os=w.os/\w'.tape=w.tape/\w'.output=w.output)/\w'.heap.size=w.heap.size/\∀b,b≠g->w'.heap[b]?=w.heap[b]?
theorem bE.refl(g:Nat)(w:World):bE g w w:=⟨⟨rfl,rfl,rfl⟩,rfl,λ_ _=>rfl⟩
theorem bE.set{g:Nat}{w w':World}(a:bE g w w')(o:Nat)(v:Value):bE g w (w'.setCell ⟨g,o,none⟩ v):=
 ⟨a.1,by simpa [World.setCell]using a.2.1,λb c=>by
  have:g≠b:=λd=>c d.symm;rw[<-a.2.2 b c]
  simp[World.setCell,bG,this]⟩
theorem bE.below{g:Nat}{w0 w w':World}(a:bE g w w')(c:aj w0 w)(e:w0.heap.size<=g):aj w0 w':=
 ⟨a.1.1.trans c.os,a.1.2.1.trans c.tape,a.1.2.2.trans c.output,by rw[a.2.1];exact c.size,λb d=>(a.2.2 b (by omega)).trans (c.block b d)⟩
theorem bE.stays{c:Type}{a:Nat->World->c->Prop}{d:(Nat->Prop)->c->Prop}(i:jE a d){g:Nat}{w w':World}(e:bE g w w'){P:Nat->Prop}(h:¬P g){x:c}(l:d P x)(k:a w.heap.size w x):a w'.heap.size w' x:=by
 rw[e.2.1];exact i.2.2.1 P _ w w' x (λb j=>e.2.2 b (λf=>h (f▸j))) l k
theorem jP(g:Nat)(w:World)(v0 v1 v2 v3 b c d e f h a:Value):bE g w (((((((((((w.setCell ⟨g,0,none⟩ v0).setCell ⟨g,1,none⟩ v1).setCell ⟨g,2,none⟩ v2).setCell ⟨g,3,none⟩ v3).setCell ⟨g,4,none⟩ b).setCell ⟨g,5,none⟩ c).setCell ⟨g,6,none⟩ d).setCell ⟨g,7,none⟩ e).setCell ⟨g,8,none⟩ f).setCell ⟨g,9,none⟩ h).setCell ⟨g,10,none⟩ a):=bE.set (bE.set (bE.set (bE.set (bE.set (bE.set (bE.set (bE.set (bE.set (bE.set (bE.set (bE.refl _ _) _ _) _ _) _ _) _ _) _ _) _ _) _ _) _ _) _ _) _ _) _ _
theorem qC(g:Nat)(w:World)(v0 v1 v2 v3 d e f h i j a b c:Value):bE g w (((((((((((((w.setCell ⟨g,0,none⟩ v0).setCell ⟨g,1,none⟩ v1).setCell ⟨g,2,none⟩ v2).setCell ⟨g,3,none⟩ v3).setCell ⟨g,4,none⟩ d).setCell ⟨g,5,none⟩ e).setCell ⟨g,6,none⟩ f).setCell ⟨g,7,none⟩ h).setCell ⟨g,8,none⟩ i).setCell ⟨g,9,none⟩ j).setCell ⟨g,10,none⟩ a).setCell ⟨g,11,none⟩ b).setCell ⟨g,12,none⟩ c):=bE.set (bE.set (bE.set (bE.set (bE.set (bE.set (bE.set (bE.set (bE.set (bE.set (bE.set (bE.set (bE.set (bE.refl _ _) _ _) _ _) _ _) _ _) _ _) _ _) _ _) _ _) _ _) _ _) _ _) _ _) _ _
abbrev ng(M:Nat)(o:Option (Ac (M+1)))(w:World)(e:Ending)(w':World):Prop:=qm (fW (M+1)) (ij (M+1)) (lC (M+1)) (B4 (M+1)) o w e w'
def N5(M:Nat):Ac (M+1):=(0,(zT M,zT M),(.empty,0))
theorem Nl(M B:Nat)(w:World):ij (M+1) B w (N5 M):=⟨by simp[N5,dn],kP _ _ _,kP _ _ _,aE _,by simp[N5,dn]⟩
theorem pP{M:Nat}{o:Option (Ac (M+1))}{w w':World}(b:o=none)(a:aj w w'):ng M o w (.returned (.tuple #[.agg #[ab 0,ab 0,ab 0,af .empty,ae none 0 0,ab 0,ab 0,af .empty,ae none 0 0,af .empty,ab 0],.bool false])) w':=by
 subst b;exact⟨N5 M,false,rfl,a,rfl,Nl _ _ _,⟨ah rfl,ah rfl⟩,λd c=>by cases c⟩
theorem AQ{P:Nat->Prop}:(N n:Nat)->n<=N->(x:Tm n)->bZ P n x->bZ P N (aO N n x)
 | _,0,_,_,k=>k.elim
 | 0,n+1,h,_,_=>by omega
 | N+1,n+1,h,x,k=>by
  rcases k with k|⟨b,o,e,d,k⟩
  ·exact ah (by simp[aO,k])
  ·refine ai ⟨b,o,e,d,λi y a=>?_⟩;simp only[aO,dr]at a;obtain⟨c,f,rfl⟩:=cd.1 a;exact AQ N n (by omega) c (k i c f)
theorem iB{M n:Nat}(a:n<=M+1){b y:Tm n}{w':World}{P:Nat->Prop}(c:In w'.heap.size w' n y)(d:bZ P n y)(e:ax n y n b=true):In w'.heap.size w' (M+1) (aO (M+1) n y)/\bZ P (M+1) (aO (M+1) n y)/\ax (M+1) (aO (M+1) n y) (M+1) (aO (M+1) n b)=true:=
 ⟨oo _ _ a _ _ _ c,AQ _ _ a _ d,om a a e⟩
theorem Iv(w:World)(a b c d:Obj):(((((w.alloc a).alloc b).alloc c).alloc d).heap[w.heap.size]?=some a/\((((w.alloc a).alloc b).alloc c).alloc d).heap[w.heap.size+1]?=some b/\((((w.alloc a).alloc b).alloc c).alloc d).heap[w.heap.size+1+1]?=some c/\((((w.alloc a).alloc b).alloc c).alloc d).heap[w.heap.size+1+1+1]?=some d)/\aj w ((((w.alloc a).alloc b).alloc c).alloc d)/\((((w.alloc a).alloc b).alloc c).alloc d).heap.size=w.heap.size+1+1+1+1:=by
 have f:=jR w a b;have e:=jR ((w.alloc a).alloc b) c d;have g:((w.alloc a).alloc b).heap.size=w.heap.size+1+1:=by simp
 rw[g]at e;refine⟨⟨?_,?_,e.1,e.2⟩,by go_grown,by simp⟩
 ·exact(gw _ d (by simp;omega)).trans ((gw _ c (by simp;omega)).trans f.1)
 ·exact(gw _ d (by simp)).trans ((gw _ c (by simp)).trans f.2)
theorem lF{w:World}{q:Nat}{c0 b d e f g h i k l c:Value}{t:TypeId}(a:w.heap[q]?=some (.cells #[c0,b,d,e,f,g,h,i,k,l,c] t)):(w.cell? ⟨q,0,none⟩=some c0/\w.cell? ⟨q,1,none⟩=some b/\w.cell? ⟨q,2,none⟩=some d/\w.cell? ⟨q,3,none⟩=some e/\w.cell? ⟨q,4,none⟩=some f/\w.cell? ⟨q,5,none⟩=some g/\w.cell? ⟨q,6,none⟩=some h/\w.cell? ⟨q,7,none⟩=some i/\w.cell? ⟨q,8,none⟩=some k/\w.cell? ⟨q,9,none⟩=some l/\w.cell? ⟨q,10,none⟩=some c)/\(∀j,w.frozen? ⟨q,j,none⟩=false)/\q<w.heap.size:=
 ⟨⟨ar a 0,ar a 1,ar a 2,ar a 3,ar a 4,ar a 5,ar a 6,ar a 7,ar a 8,ar a 9,ar a 10⟩,λj=>cP a j,(aD.1 a).1⟩
theorem mS{M:Nat}{o:Option (Ac (M+1))}{w w2 w':World}{g:Nat}(y e:Ac (M+1))(i:o=some e)(d:bE g w2 w')(a:aj w w2)(f:w.heap.size<=g)(h:ij (M+1) w2.heap.size w2 y)(c:lC (M+1) (λb=>g<b) y)(j:B4 (M+1) y e):ng M o w (.returned (.tuple #[.agg (fW (M+1) y).toArray,.bool true])) w':=by
 subst i;exact⟨y,true,rfl,d.below a f,rfl,d.stays (fq _) (P:=λb=>g<b) (by omega) c h,(fq _).1 _ _ _ (λb a=>by omega) c,λl k=>by obtain rfl:=au k;exact j⟩
section
variable {P:Program}
end
theorem fS{g:Nat}{w w':World}(a:bE g w w'){b:Nat}(c:b≠g)(o:Nat):w'.cell? ⟨b,o,none⟩=w.cell? ⟨b,o,none⟩:=bt (a.2.2 b c) o
theorem Lx{q:Nat}{w w':World}{v0 v1 v2 v3 b c:Value}(a:bE (q+1+1+1) w w')(k:(w.cell? ⟨q,2,none⟩=some v0/\w.cell? ⟨q+1+1,1,none⟩=some v1)/\w.cell? ⟨q+1,0,none⟩=some v2/\w.cell? ⟨q+1,1,none⟩=some v3/\w.cell? ⟨q+1,2,none⟩=some b/\w.cell? ⟨q+1,3,none⟩=some c):(w'.cell? ⟨q,2,none⟩=some v0/\w'.cell? ⟨q+1+1,1,none⟩=some v1)/\w'.cell? ⟨q+1,0,none⟩=some v2/\w'.cell? ⟨q+1,1,none⟩=some v3/\w'.cell? ⟨q+1,2,none⟩=some b/\w'.cell? ⟨q+1,3,none⟩=some c:=
 ⟨⟨(fS a (by omega) _).trans k.1.1,(fS a (by omega) _).trans k.1.2⟩,(fS a (by omega) _).trans k.2.1,(fS a (by omega) _).trans k.2.2.1,(fS a (by omega) _).trans k.2.2.2.1,(fS a (by omega) _).trans k.2.2.2.2⟩
theorem vD(M n:Nat)(aq:n+1<=M+1)(a b c:Tm (n+1))(B:Nat)(w:World)(u:In B w (n+1) a)(x:In B w (n+1) b)(y:In B w (n+1) c)(z:az ⟨n+1,a⟩)(A:az ⟨n+1,b⟩)(L:B<=w.heap.size):am 169 #[.agg #[ab a.1.1,ab a.1.2.1,af a.1.2.2,ae a.2.1.1 a.2.2.length a.2.1.2],.agg #[ab b.1.1,ab b.1.2.1,af b.1.2.2,ae b.2.1.1 b.2.2.length b.2.1.2],.agg #[ab c.1.1,ab c.1.2.1,af c.1.2.2,ae c.2.1.1 c.2.2.length c.2.1.2]] w (ng M (yC M (n+1) a b c) w):=by
 obtain⟨o,i⟩:∃o,o=yC M (n+1) a b c:=⟨_,rfl⟩;rw[<-i];by_cases f:a.1.1=2
 ·by_cases m:c.1.1=5
  ·have q:Hid (o=some (2,(zT M,aO (M+1) (n+1) b),(a.1.2.2,c.1.2.1))):=by
     show _=_;rw[i];simp[yC,bO,f,m,wm,oX,gd,bA]
   clear i;have K:(a.1.1 !=2)=false:=by simp[f]
   have ag:(c.1.1 !=5)=false:=by simp[m]
   have au:a.1.2.2.size<=2048:=by
    have:=z (bA n a) (by simp[aw,bA]);have ak:dG a.1.2.2=true:=by
     simp only[cv,bA,f]at this;simp at this;exact this.1.1
    simp only[dG,qd,aA,bU]at ak;omega
   have O:Hid (∀j,aj w j->am 54 #[.agg #[ab b.1.1,ab b.1.2.1,af b.1.2.2,ae b.2.1.1 b.2.2.length b.2.1.2]] j λl e=>∃d:Tm (n+1),l=.returned (.agg #[ab d.1.1,ab d.1.2.1,af d.1.2.2,ae d.2.1.1 d.2.2.length d.2.1.2])/\Hid (aj j e/\In e.heap.size e (n+1) d/\bZ (λC=>j.heap.size<=C) (n+1) d/\ax (n+1) d (n+1) b=true)):=
    λj t=>gW (n+1) b B j (x.below (t.mono L)) (ay L t.size) A
   have J:Hid (a.1.2.2.size<=maxLen/\dn c.1.2.1):=⟨u.1.2.2.1,y.1.2.1⟩;clear u x y z A f m;go_enter Tryz.func169,Tryz.ntmps169;go_wp2_with fail;have h:=ao (Iv w (.cells #[ab a.1.1,ab a.1.2.1,af a.1.2.2,ae a.2.1.1 a.2.2.length a.2.1.2] 30) (.cells #[ab b.1.1,ab b.1.2.1,af b.1.2.2,ae b.2.1.1 b.2.2.length b.2.1.2] 30) (.cells #[ab c.1.1,ab c.1.2.1,af c.1.2.2,ae c.2.1.1 c.2.2.length c.2.1.2] 30) (.cells #[ab 0,ab 0,ab 0,af ⟨#[]⟩,ae none 0 0,ab 0,ab 0,af ⟨#[]⟩,ae none 0 0,af ⟨#[]⟩,ab 0] 224));generalize N:(((w.alloc _).alloc _).alloc _).alloc _=F;rw[N]at h;clear N;have p:Hid (∀e,aj F e->(e.cell? ⟨w.heap.size,2,none⟩=some (af a.1.2.2)/\e.cell? ⟨w.heap.size+1+1,1,none⟩=some (ab c.1.2.1))/\e.cell? ⟨w.heap.size+1,0,none⟩=some (ab b.1.1)/\e.cell? ⟨w.heap.size+1,1,none⟩=some (ab b.1.2.1)/\e.cell? ⟨w.heap.size+1,2,none⟩=some (af b.1.2.2)/\e.cell? ⟨w.heap.size+1,3,none⟩=some (ae b.2.1.1 b.2.2.length b.2.1.2)):=λe G=>by
    have l:=h.out.2.2;have t:=(G.block w.heap.size (by omega)).trans h.out.1.1;have f:=(G.block (w.heap.size+1) (by omega)).trans h.out.1.2.1;have ai:=(G.block (w.heap.size+1+1) (by omega)).trans h.out.1.2.2.1;exact⟨⟨ar t 2,ar ai 1⟩,ar f 0,ar f 1,ar f 2,ar f 3⟩
   obtain⟨⟨aB,aG⟩,aC,aD,aE,aF⟩:=p.out F (ap _ _)
   go_region_held3 (λe=>(e.cell? ⟨w.heap.size,2,none⟩=some (af a.1.2.2)/\e.cell? ⟨w.heap.size+1+1,1,none⟩=some (ab c.1.2.1))/\e.cell? ⟨w.heap.size+1,0,none⟩=some (ab b.1.1)/\e.cell? ⟨w.heap.size+1,1,none⟩=some (ab b.1.2.1)/\e.cell? ⟨w.heap.size+1,2,none⟩=some (af b.1.2.2)/\e.cell? ⟨w.heap.size+1,3,none⟩=some (ae b.2.1.1 b.2.2.length b.2.1.2)) (first|with_reducible assumption|with_reducible exact p.out _ r.out|with_reducible exact p.out _ D.out|with_reducible exact P.out _ (jP _ _ _ _ _ _ _ _ _ _ _ _ _)|exact p.out _ (ap _ _).drew)
    ((first
     | (go_at_call 54;refine(O.out _ h.out.2.1.drew).mono ?_;rintro l j ⟨d,rfl,s⟩;have D:=ao (cF s.out.1))
     | (go_at_call 41;refine(dH _ _ au).mono ?_;rintro l w2 ⟨rfl,H⟩;have I:=ao H;have r:=ao (D.out.trans (H.mono D.out.size));have Q:=ao ((r.out.block (w.heap.size+1+1+1) (by have:=h.out.2.2;omega)).trans h.out.1.2.2.2);clear H;obtain⟨⟨S,d1,U,V,W,X,Y,Z,aa,ad,T⟩,aH,aJ⟩:=lF Q.out;have P:=ao (λR (an:bE (w.heap.size+1+1+1) w2 R)=>Lx an (p.out _ r.out)))))
   go_wp2_with fail;have E:=iB (M:=M) aq ((s.out.2.1.below I.out).mono I.out.size) (s.out.2.2.1.mono λC (aI:F.heap.size<=C)=>(show w.heap.size+1+1+1<C by have:=h.out.2.2;omega)) s.out.2.2.2;refine av (v:=.tuple #[.agg #[ab 2,ab 0,ab 0,af ⟨#[]⟩,ae none 0 0,ab d.1.1,ab d.1.2.1,af d.1.2.2,ae d.2.1.1 d.2.2.length d.2.1.2,af a.1.2.2,ab c.1.2.1],.bool true]) (by simp[results,Tryz.results169,go_sem,S,d1,U,V,W,X,Y,Z,aa,ad,T]) rfl ?_;have l:fW (M+1) (2,(zT M,aO (M+1) (n+1) d),(a.1.2.2,c.1.2.1))=[ab 2,ab 0,ab 0,af ⟨#[]⟩,ae none 0 0,ab d.1.1,ab d.1.2.1,af d.1.2.2,ae d.2.1.1 d.2.2.length d.2.1.2,af a.1.2.2,ab c.1.2.1]:=by
    show ab 2::(hU (M+1) (zT M)++hU (M+1) (aO (M+1) (n+1) d)++ [af a.1.2.2,ab c.1.2.1])=_;rw[gg];rfl
   have k:=λ(e:World)(al:bE (w.heap.size+1+1+1) w2 e)=>mS (g:=w.heap.size+1+1+1) (w2:=w2) (2,(zT M,aO (M+1) (n+1) d),(a.1.2.2,c.1.2.1)) (2,(zT M,aO (M+1) (n+1) b),(a.1.2.2,c.1.2.1)) q.out (w:=w) al (h.out.2.1.trans (r.out.mono h.out.2.1.size)) (by omega) ⟨by simp[dn],kP _ _ _,E.1,J.out.1,J.out.2⟩ ⟨ah rfl,E.2.1⟩ ⟨rfl,ld (kP _ 0 w),E.2.2,rfl⟩;rw[l]at k;exact k _ (jP _ _ _ _ _ _ _ _ _ _ _ _ _)
  ·have K:(a.1.1 !=2)=false:=by simp[f]
   have ag:(c.1.1 !=5)=true:=by simp[m]
   have q:Hid (o=none):=by
    show _=_;rw[i];simp[yC,bO,m]
   clear i;clear u x y z A f m;go_enter Tryz.func169,Tryz.ntmps169;go_wp2_with fail;exact av (v:=.tuple #[.agg #[ab 0,ab 0,ab 0,af .empty,ae none 0 0,ab 0,ab 0,af .empty,ae none 0 0,af .empty,ab 0],.bool false]) (by simp[results,Tryz.results169,go_sem];rfl) rfl (pP q.out (by go_grown))
 ·have K:(a.1.1 !=2)=true:=by simp[f]
  have q:Hid (o=none):=by
   show _=_;rw[i];simp[yC,bO,f]
  clear i;clear u x y z A f;go_enter Tryz.func169,Tryz.ntmps169;go_wp2_with fail;exact av (v:=.tuple #[.agg #[ab 0,ab 0,ab 0,af .empty,ae none 0 0,ab 0,ab 0,af .empty,ae none 0 0,af .empty,ab 0],.bool false]) (by simp[results,Tryz.results169,go_sem];rfl) rfl (pP q.out (by go_grown))
end Go.Proofs.YtckamaoibonjcaaGreat
