/- What is proved here: plain facts and contracts that the claimed theorem stands on. No condition but those that each names. -/
import Derived.Test.YtckamaoibonjcaaGreatH34
import Derived.Laws.Tables
namespace Go.Proofs.YtckamaoibonjcaaGreat
open Go.RowKit
set_option maxHeartbeats 1000000
set_option maxRecDepth 100000
theorem FW(k b:Int)(s:ByteArray)(a:Option Addr)(l c:Nat)(w:World)(d:(k !=4)=true):ak 90 #[.agg #[ab k,ab b,ae s,.slice a l c]] w λe w'=>e=.returned (.tuple #[ae ⟨#[]⟩,.slice none 0 0])/\ai w w':=by
 go_enter Tryz.func90,Tryz.ntmps90;go_wp2_with fail;exact ar (v:=.tuple #[ae ⟨#[]⟩,.slice none 0 0]) (by simp[results,Tryz.results90,go_sem]) rfl ⟨rfl,aK⟩
theorem AM(b:Int)(s:ByteArray)(a:Option Addr)(c:Nat)(w:World):ak 90 #[.agg #[ab 4,ab b,ae s,.slice a 0 c]] w λe w'=>e=.returned (.tuple #[ae ⟨#[]⟩,.slice none 0 0])/\ai w w':=by
 go_enter Tryz.func90,Tryz.ntmps90;go_wp2_with fail;exact ar (v:=.tuple #[ae ⟨#[]⟩,.slice none 0 0]) (by simp[results,Tryz.results90,go_sem]) rfl ⟨rfl,aK⟩
theorem CQ(a:Int)(s:ByteArray)(b o l c:Nat)(f:0<l)(y0:Int)(i:(y0 !=2)=true)(w:World)(d:b<w.heap.size)(c0:w.cell? ⟨b,o,none⟩=some (ab y0)):ak 90 #[.agg #[ab 4,ab a,ae s,.slice (some ⟨b,o,none⟩) l c]] w λe w'=>e=.returned (.tuple #[ae ⟨#[]⟩,.slice none 0 0])/\ai w w':=by
 have g:((l:Int)==0)=false:=by simp;omega
 have h:(0:Int)<(l:Int):=by omega
 go_enter Tryz.func90,Tryz.ntmps90;go_wp2_with fail;exact ar (v:=.tuple #[ae ⟨#[]⟩,.slice none 0 0]) (by simp[results,Tryz.results90,go_sem]) rfl ⟨rfl,aK⟩
theorem FV(d:Int)(s:ByteArray)(b o l c:Nat)(i:0<l)(p:l<=c)(h:c<=9223372036854775807)(y2:ByteArray)(w:World)(g:b<w.heap.size)(c0:w.cell? ⟨b,o,none⟩=some (ab 2))(f:w.cell? ⟨b,o+2,none⟩=some (ae y2)):ak 90 #[.agg #[ab 4,ab d,ae s,.slice (some ⟨b,o,none⟩) l c]] w λe w'=>e=.returned (.tuple #[ae y2,.slice (if c=1 then some ⟨b,o,none⟩else some ⟨b,o+4,none⟩) (l-1) (c-1)])/\ai w w':=by
 have j:((l:Int)==0)=false:=by simp;omega
 have k:(0:Int)<(l:Int):=by omega
 have m:(1:Int)<=(l:Int):=by omega
 have n:(l:Int)<=(c:Int):=by omega
 by_cases a:c=1
 ·rw[if_pos a];obtain rfl:l=1:=by omega
  subst a;go_enter Tryz.func90,Tryz.ntmps90;go_wp2_with fail;go_region
  all_goals go_wp2_with fail
  all_goals exact ar (v:=.tuple #[ae y2,.slice (some ⟨b,o,none⟩) 0 0]) (by simp[results,Tryz.results90,go_sem]) rfl ⟨rfl,aK.drew⟩
 ·rw[if_neg a];go_enter Tryz.func90,Tryz.ntmps90;go_wp2_with fail;go_region
  all_goals go_wp2_with fail
  all_goals exact ar (v:=.tuple #[ae y2,.slice (some ⟨b,o+4,none⟩) (l-1) (c-1)]) (by simp[results,Tryz.results90,go_sem]) rfl ⟨rfl,aK.drew⟩
def bE(g:Nat)(w w':World):Prop:=(w'.os=w.os/\w'.tape=w.tape/\w'.output=w.output)/\w'.heap.size=w.heap.size/\∀b,b≠g->w'.heap[b]?=w.heap[b]?
theorem bE.refl(g:Nat)(w:World):bE g w w:=⟨⟨rfl,rfl,rfl⟩,rfl,λ_ _=>rfl⟩
theorem bE.set{g:Nat}{w w':World}(a:bE g w w')(o:Nat)(v:Value):bE g w (w'.setCell ⟨g,o,none⟩ v):=
 ⟨a.1,by simpa [World.setCell]using a.2.1,λb c=>by
  have:g≠b:=λd=>c d.symm;rw[<-a.2.2 b c]
  simp[World.setCell,bG,this]⟩
theorem bE.below{g:Nat}{w0 w w':World}(a:bE g w w')(c:ai w0 w)(e:w0.heap.size<=g):ai w0 w':=
 ⟨a.1.1.trans c.os,a.1.2.1.trans c.tape,a.1.2.2.trans c.output,by rw[a.2.1];exact c.size,λb d=>(a.2.2 b (by omega)).trans (c.block b d)⟩
theorem bE.stays{c:Type}{a:Nat->World->c->Prop}{d:(Nat->Prop)->c->Prop}(i:jv a d){g:Nat}{w w':World}(e:bE g w w'){P:Nat->Prop}(h:¬P g){x:c}(l:d P x)(k:a w.heap.size w x):a w'.heap.size w' x:=by
 rw[e.2.1];exact i.2.2.1 P _ w w' x (λb j=>e.2.2 b (λf=>h (f▸j))) l k
theorem jG(g:Nat)(w:World)(v0 v1 v2 v3 b c d e f h a:Value):bE g w (((((((((((w.setCell ⟨g,0,none⟩ v0).setCell ⟨g,1,none⟩ v1).setCell ⟨g,2,none⟩ v2).setCell ⟨g,3,none⟩ v3).setCell ⟨g,4,none⟩ b).setCell ⟨g,5,none⟩ c).setCell ⟨g,6,none⟩ d).setCell ⟨g,7,none⟩ e).setCell ⟨g,8,none⟩ f).setCell ⟨g,9,none⟩ h).setCell ⟨g,10,none⟩ a):=bE.set (bE.set (bE.set (bE.set (bE.set (bE.set (bE.set (bE.set (bE.set (bE.set (bE.set (bE.refl _ _) _ _) _ _) _ _) _ _) _ _) _ _) _ _) _ _) _ _) _ _) _ _
theorem qx(g:Nat)(w:World)(v0 v1 v2 v3 d e f h i j a b c:Value):bE g w (((((((((((((w.setCell ⟨g,0,none⟩ v0).setCell ⟨g,1,none⟩ v1).setCell ⟨g,2,none⟩ v2).setCell ⟨g,3,none⟩ v3).setCell ⟨g,4,none⟩ d).setCell ⟨g,5,none⟩ e).setCell ⟨g,6,none⟩ f).setCell ⟨g,7,none⟩ h).setCell ⟨g,8,none⟩ i).setCell ⟨g,9,none⟩ j).setCell ⟨g,10,none⟩ a).setCell ⟨g,11,none⟩ b).setCell ⟨g,12,none⟩ c):=bE.set (bE.set (bE.set (bE.set (bE.set (bE.set (bE.set (bE.set (bE.set (bE.set (bE.set (bE.set (bE.set (bE.refl _ _) _ _) _ _) _ _) _ _) _ _) _ _) _ _) _ _) _ _) _ _) _ _) _ _) _ _
abbrev mW(M:Nat)(o:Option (Ac (M+1)))(w:World)(e:Ending)(w':World):Prop:=qe (fT (M+1)) (ic (M+1)) (lp (M+1)) (BU (M+1)) o w e w'
def N8(M:Nat):Ac (M+1):=(0,(zT M,zT M),(.empty,0))
theorem Np(M B:Nat)(w:World):ic (M+1) B w (N8 M):=⟨by simp[N8,dk],kI _ _ _,kI _ _ _,aF _,by simp[N8,dk]⟩
theorem pJ{M:Nat}{o:Option (Ac (M+1))}{w w':World}(b:o=none)(a:ai w w'):mW M o w (.returned (.tuple #[.agg #[ab 0,ab 0,ab 0,ae .empty,.slice none 0 0,ab 0,ab 0,ae .empty,.slice none 0 0,ae .empty,ab 0],.bool false])) w':=by
 subst b;exact⟨N8 M,false,rfl,a,rfl,Np _ _ _,⟨ag rfl,ag rfl⟩,λd c=>by cases c⟩
theorem AK{P:Nat->Prop}:(N n:Nat)->n<=N->(x:Tm n)->bZ P n x->bZ P N (aN N n x)
 | _,0,_,_,k=>k.elim
 | 0,n+1,h,_,_=>by omega
 | N+1,n+1,h,x,k=>by
  rcases k with k|⟨b,o,e,d,k⟩
  ·exact ag (by simp[aN,k])
  ·refine ah ⟨b,o,e,d,λi y a=>?_⟩;simp only[aN,dh]at a;obtain⟨c,f,rfl⟩:=cd.1 a;exact AK N n (by omega) c (k i c f)
theorem iv{M n:Nat}(a:n<=M+1){b y:Tm n}{w':World}{P:Nat->Prop}(c:In w'.heap.size w' n y)(d:bZ P n y)(e:aw n y n b=true):In w'.heap.size w' (M+1) (aN (M+1) n y)/\bZ P (M+1) (aN (M+1) n y)/\aw (M+1) (aN (M+1) n y) (M+1) (aN (M+1) n b)=true:=
 ⟨og _ _ a _ _ _ c,AK _ _ a _ d,oe a a e⟩
theorem Iy(w:World)(a b c d:Obj):(((((w.alloc a).alloc b).alloc c).alloc d).heap[w.heap.size]?=some a/\((((w.alloc a).alloc b).alloc c).alloc d).heap[w.heap.size+1]?=some b/\((((w.alloc a).alloc b).alloc c).alloc d).heap[w.heap.size+1+1]?=some c/\((((w.alloc a).alloc b).alloc c).alloc d).heap[w.heap.size+1+1+1]?=some d)/\ai w ((((w.alloc a).alloc b).alloc c).alloc d)/\((((w.alloc a).alloc b).alloc c).alloc d).heap.size=w.heap.size+1+1+1+1:=by
 have f:=jI w a b;have e:=jI ((w.alloc a).alloc b) c d;have g:((w.alloc a).alloc b).heap.size=w.heap.size+1+1:=by simp
 rw[g]at e;refine⟨⟨?_,?_,e.1,e.2⟩,by go_grown,by simp⟩
 ·exact(gq _ d (by simp;omega)).trans ((gq _ c (by simp;omega)).trans f.1)
 ·exact(gq _ d (by simp)).trans ((gq _ c (by simp)).trans f.2)
theorem lw{w:World}{q:Nat}{c0 b d e f g h i k l c:Value}{t:TypeId}(a:w.heap[q]?=some (.cells #[c0,b,d,e,f,g,h,i,k,l,c] t)):(w.cell? ⟨q,0,none⟩=some c0/\w.cell? ⟨q,1,none⟩=some b/\w.cell? ⟨q,2,none⟩=some d/\w.cell? ⟨q,3,none⟩=some e/\w.cell? ⟨q,4,none⟩=some f/\w.cell? ⟨q,5,none⟩=some g/\w.cell? ⟨q,6,none⟩=some h/\w.cell? ⟨q,7,none⟩=some i/\w.cell? ⟨q,8,none⟩=some k/\w.cell? ⟨q,9,none⟩=some l/\w.cell? ⟨q,10,none⟩=some c)/\(∀j,w.frozen? ⟨q,j,none⟩=false)/\q<w.heap.size:=
 ⟨⟨aq a 0,aq a 1,aq a 2,aq a 3,aq a 4,aq a 5,aq a 6,aq a 7,aq a 8,aq a 9,aq a 10⟩,λj=>cO a j,(aC.1 a).1⟩
theorem mL{M:Nat}{o:Option (Ac (M+1))}{w w2 w':World}{g:Nat}(y e:Ac (M+1))(i:o=some e)(d:bE g w2 w')(a:ai w w2)(f:w.heap.size<=g)(h:ic (M+1) w2.heap.size w2 y)(c:lp (M+1) (λb=>g<b) y)(j:BU (M+1) y e):mW M o w (.returned (.tuple #[.agg (fT (M+1) y).toArray,.bool true])) w':=by
 subst i;exact⟨y,true,rfl,d.below a f,rfl,d.stays (fu _) (P:=λb=>g<b) (by omega) c h,(fu _).1 _ _ _ (λb a=>by omega) c,λl k=>by obtain rfl:=au k;exact j⟩
section
variable {P:Program}
end
theorem fP{g:Nat}{w w':World}(a:bE g w w'){b:Nat}(c:b≠g)(o:Nat):w'.cell? ⟨b,o,none⟩=w.cell? ⟨b,o,none⟩:=bm (a.2.2 b c) o
theorem LA{q:Nat}{w w':World}{v0 v1 v2 v3 b c:Value}(a:bE (q+1+1+1) w w')(k:(w.cell? ⟨q,2,none⟩=some v0/\w.cell? ⟨q+1+1,1,none⟩=some v1)/\w.cell? ⟨q+1,0,none⟩=some v2/\w.cell? ⟨q+1,1,none⟩=some v3/\w.cell? ⟨q+1,2,none⟩=some b/\w.cell? ⟨q+1,3,none⟩=some c):(w'.cell? ⟨q,2,none⟩=some v0/\w'.cell? ⟨q+1+1,1,none⟩=some v1)/\w'.cell? ⟨q+1,0,none⟩=some v2/\w'.cell? ⟨q+1,1,none⟩=some v3/\w'.cell? ⟨q+1,2,none⟩=some b/\w'.cell? ⟨q+1,3,none⟩=some c:=
 ⟨⟨(fP a (by omega) _).trans k.1.1,(fP a (by omega) _).trans k.1.2⟩,(fP a (by omega) _).trans k.2.1,(fP a (by omega) _).trans k.2.2.1,(fP a (by omega) _).trans k.2.2.2.1,(fP a (by omega) _).trans k.2.2.2.2⟩
theorem vA(M n:Nat)(ap:n+1<=M+1)(a b c:Tm (n+1))(B:Nat)(w:World)(u:In B w (n+1) a)(x:In B w (n+1) b)(y:In B w (n+1) c)(z:aA ⟨n+1,a⟩)(A:aA ⟨n+1,b⟩)(L:B<=w.heap.size):ak 169 #[.agg #[ab a.1.1,ab a.1.2.1,ae a.1.2.2,.slice a.2.1.1 a.2.2.length a.2.1.2],.agg #[ab b.1.1,ab b.1.2.1,ae b.1.2.2,.slice b.2.1.1 b.2.2.length b.2.1.2],.agg #[ab c.1.1,ab c.1.2.1,ae c.1.2.2,.slice c.2.1.1 c.2.2.length c.2.1.2]] w (mW M (yx M (n+1) a b c) w):=by
 obtain⟨o,i⟩:∃o,o=yx M (n+1) a b c:=⟨_,rfl⟩;rw[<-i];by_cases f:a.1.1=2
 ·by_cases m:c.1.1=5
  ·have q:Hid (o=some (2,(zT M,aN (M+1) (n+1) b),(a.1.2.2,c.1.2.1))):=by
     show _=_;rw[i];simp[yx,bN,f,m,wi,oS,fX,bu]
   clear i;have K:(a.1.1 !=2)=false:=by simp[f]
   have af:(c.1.1 !=5)=false:=by simp[m]
   have au:a.1.2.2.size<=2048:=by
    have:=z (bu n a) (by simp[av,bu]);have aj:dE a.1.2.2=true:=by
     simp only[cq,bu,f]at this;simp at this;exact this.1.1
    simp only[dE,pY,aB,bX]at aj;omega
   have O:Hid (∀j,ai w j->ak 54 #[.agg #[ab b.1.1,ab b.1.2.1,ae b.1.2.2,.slice b.2.1.1 b.2.2.length b.2.1.2]] j λl e=>∃d:Tm (n+1),l=.returned (.agg #[ab d.1.1,ab d.1.2.1,ae d.1.2.2,.slice d.2.1.1 d.2.2.length d.2.1.2])/\Hid (ai j e/\In e.heap.size e (n+1) d/\bZ (λC=>j.heap.size<=C) (n+1) d/\aw (n+1) d (n+1) b=true)):=
    λj t=>gS (n+1) b B j (x.below (t.mono L)) (ax L t.size) A
   have J:Hid (a.1.2.2.size<=maxLen/\dk c.1.2.1):=⟨u.1.2.2.1,y.1.2.1⟩;clear u x y z A f m;go_enter Tryz.func169,Tryz.ntmps169;go_wp2_with fail;have h:=ao (Iy w (.cells #[ab a.1.1,ab a.1.2.1,ae a.1.2.2,.slice a.2.1.1 a.2.2.length a.2.1.2] 30) (.cells #[ab b.1.1,ab b.1.2.1,ae b.1.2.2,.slice b.2.1.1 b.2.2.length b.2.1.2] 30) (.cells #[ab c.1.1,ab c.1.2.1,ae c.1.2.2,.slice c.2.1.1 c.2.2.length c.2.1.2] 30) (.cells #[ab 0,ab 0,ab 0,ae ⟨#[]⟩,.slice none 0 0,ab 0,ab 0,ae ⟨#[]⟩,.slice none 0 0,ae ⟨#[]⟩,ab 0] 224));generalize N:(((w.alloc _).alloc _).alloc _).alloc _=F;rw[N]at h;clear N;have p:Hid (∀e,ai F e->(e.cell? ⟨w.heap.size,2,none⟩=some (ae a.1.2.2)/\e.cell? ⟨w.heap.size+1+1,1,none⟩=some (ab c.1.2.1))/\e.cell? ⟨w.heap.size+1,0,none⟩=some (ab b.1.1)/\e.cell? ⟨w.heap.size+1,1,none⟩=some (ab b.1.2.1)/\e.cell? ⟨w.heap.size+1,2,none⟩=some (ae b.1.2.2)/\e.cell? ⟨w.heap.size+1,3,none⟩=some (.slice b.2.1.1 b.2.2.length b.2.1.2)):=λe G=>by
    have l:=h.out.2.2;have t:=(G.block w.heap.size (by omega)).trans h.out.1.1;have f:=(G.block (w.heap.size+1) (by omega)).trans h.out.1.2.1;have ah:=(G.block (w.heap.size+1+1) (by omega)).trans h.out.1.2.2.1;exact⟨⟨aq t 2,aq ah 1⟩,aq f 0,aq f 1,aq f 2,aq f 3⟩
   obtain⟨⟨ay,aF⟩,az,aC,aD,aE⟩:=p.out F (am _ _)
   go_region_held3 (λe=>(e.cell? ⟨w.heap.size,2,none⟩=some (ae a.1.2.2)/\e.cell? ⟨w.heap.size+1+1,1,none⟩=some (ab c.1.2.1))/\e.cell? ⟨w.heap.size+1,0,none⟩=some (ab b.1.1)/\e.cell? ⟨w.heap.size+1,1,none⟩=some (ab b.1.2.1)/\e.cell? ⟨w.heap.size+1,2,none⟩=some (ae b.1.2.2)/\e.cell? ⟨w.heap.size+1,3,none⟩=some (.slice b.2.1.1 b.2.2.length b.2.1.2)) (first|with_reducible assumption|with_reducible exact p.out _ r.out|with_reducible exact p.out _ D.out|with_reducible exact P.out _ (jG _ _ _ _ _ _ _ _ _ _ _ _ _)|exact p.out _ (am _ _).drew)
    ((first
     | (go_at_call 54;refine(O.out _ h.out.2.1.drew).mono ?_;rintro l j ⟨d,rfl,s⟩;have D:=ao (cD s.out.1))
     | (go_at_call 41;refine(dF _ _ au).mono ?_;rintro l w2 ⟨rfl,H⟩;have I:=ao H;have r:=ao (D.out.trans (H.mono D.out.size));have Q:=ao ((r.out.block (w.heap.size+1+1+1) (by have:=h.out.2.2;omega)).trans h.out.1.2.2.2);clear H;obtain⟨⟨S,d1,U,V,W,X,Y,Z,aa,ad,T⟩,aG,aI⟩:=lw Q.out;have P:=ao (λR (an:bE (w.heap.size+1+1+1) w2 R)=>LA an (p.out _ r.out)))))
   go_wp2_with fail;have E:=iv (M:=M) ap ((s.out.2.1.below I.out).mono I.out.size) (s.out.2.2.1.mono λC (aH:F.heap.size<=C)=>(show w.heap.size+1+1+1<C by have:=h.out.2.2;omega)) s.out.2.2.2;refine ar (v:=.tuple #[.agg #[ab 2,ab 0,ab 0,ae ⟨#[]⟩,.slice none 0 0,ab d.1.1,ab d.1.2.1,ae d.1.2.2,.slice d.2.1.1 d.2.2.length d.2.1.2,ae a.1.2.2,ab c.1.2.1],.bool true]) (by simp[results,Tryz.results169,go_sem,S,d1,U,V,W,X,Y,Z,aa,ad,T]) rfl ?_;have l:fT (M+1) (2,(zT M,aN (M+1) (n+1) d),(a.1.2.2,c.1.2.1))=[ab 2,ab 0,ab 0,ae ⟨#[]⟩,.slice none 0 0,ab d.1.1,ab d.1.2.1,ae d.1.2.2,.slice d.2.1.1 d.2.2.length d.2.1.2,ae a.1.2.2,ab c.1.2.1]:=by
    show ab 2::(gX (M+1) (zT M)++gX (M+1) (aN (M+1) (n+1) d)++ [ae a.1.2.2,ab c.1.2.1])=_;rw[f9];rfl
   have k:=λ(e:World)(al:bE (w.heap.size+1+1+1) w2 e)=>mL (g:=w.heap.size+1+1+1) (w2:=w2) (2,(zT M,aN (M+1) (n+1) d),(a.1.2.2,c.1.2.1)) (2,(zT M,aN (M+1) (n+1) b),(a.1.2.2,c.1.2.1)) q.out (w:=w) al (h.out.2.1.trans (r.out.mono h.out.2.1.size)) (by omega) ⟨by simp[dk],kI _ _ _,E.1,J.out.1,J.out.2⟩ ⟨ag rfl,E.2.1⟩ ⟨rfl,kU (kI _ 0 w),E.2.2,rfl⟩;rw[l]at k;exact k _ (jG _ _ _ _ _ _ _ _ _ _ _ _ _)
  ·have K:(a.1.1 !=2)=false:=by simp[f]
   have af:(c.1.1 !=5)=true:=by simp[m]
   have q:Hid (o=none):=by
    show _=_;rw[i];simp[yx,bN,m]
   clear i;clear u x y z A f m;go_enter Tryz.func169,Tryz.ntmps169;go_wp2_with fail;exact ar (v:=.tuple #[.agg #[ab 0,ab 0,ab 0,ae .empty,.slice none 0 0,ab 0,ab 0,ae .empty,.slice none 0 0,ae .empty,ab 0],.bool false]) (by simp[results,Tryz.results169,go_sem];rfl) rfl (pJ q.out (by go_grown))
 ·have K:(a.1.1 !=2)=true:=by simp[f]
  have q:Hid (o=none):=by
   show _=_;rw[i];simp[yx,bN,f]
  clear i;clear u x y z A f;go_enter Tryz.func169,Tryz.ntmps169;go_wp2_with fail;exact ar (v:=.tuple #[.agg #[ab 0,ab 0,ab 0,ae .empty,.slice none 0 0,ab 0,ab 0,ae .empty,.slice none 0 0,ae .empty,ab 0],.bool false]) (by simp[results,Tryz.results169,go_sem];rfl) rfl (pJ q.out (by go_grown))
end Go.Proofs.YtckamaoibonjcaaGreat
