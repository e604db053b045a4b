/- What is proved here: plain facts and contracts that the claimed theorem stands on. No condition but those that each names. -/
import Derived.Test.YtckamaoibonjcaaGreatG34
import Derived.Laws.Tables
namespace Go.Proofs.YtckamaoibonjcaaGreat
open Go.RowKit
set_option maxHeartbeats 1000000
set_option maxRecDepth 100000
theorem FF(k b:Int)(s:ByteArray)(a:Option Addr)(l c:Nat)(w:World)(d:(k !=4)=true):ah 90 #[.agg #[.int .i64 k,.int .i64 b,.string s,.slice a l c]] w λe w'=>e=.returned (.tuple #[.string ⟨#[]⟩,.slice none 0 0])/\ag w w':=by
 go_enter Tryz.func90,Tryz.ntmps90;go_wp2_with fail;exact ap (v:=.tuple #[.string ⟨#[]⟩,.slice none 0 0]) (by simp[results,Tryz.results90,go_sem]) rfl ⟨rfl,aI⟩
theorem AE(b:Int)(s:ByteArray)(a:Option Addr)(c:Nat)(w:World):ah 90 #[.agg #[.int .i64 4,.int .i64 b,.string s,.slice a 0 c]] w λe w'=>e=.returned (.tuple #[.string ⟨#[]⟩,.slice none 0 0])/\ag w w':=by
 go_enter Tryz.func90,Tryz.ntmps90;go_wp2_with fail;exact ap (v:=.tuple #[.string ⟨#[]⟩,.slice none 0 0]) (by simp[results,Tryz.results90,go_sem]) rfl ⟨rfl,aI⟩
theorem CG(a:Int)(s:ByteArray)(b o l c:Nat)(f:0<l)(y0:Int)(i:(y0 !=2)=true)(w:World)(d:b<w.heap.size)(c0:w.cell? ⟨b,o,none⟩=some (.int .i64 y0)):ah 90 #[.agg #[.int .i64 4,.int .i64 a,.string s,.slice (some ⟨b,o,none⟩) l c]] w λe w'=>e=.returned (.tuple #[.string ⟨#[]⟩,.slice none 0 0])/\ag w w':=by
 have g:((l:Int)==0)=false:=by simp;omega
 have h:(0:Int)<(l:Int):=by omega
 go_enter Tryz.func90,Tryz.ntmps90;go_wp2_with fail;exact ap (v:=.tuple #[.string ⟨#[]⟩,.slice none 0 0]) (by simp[results,Tryz.results90,go_sem]) rfl ⟨rfl,aI⟩
theorem FE(d:Int)(s:ByteArray)(b o l c:Nat)(i:0<l)(p:l<=c)(h:c<=9223372036854775807)(y2:ByteArray)(w:World)(g:b<w.heap.size)(c0:w.cell? ⟨b,o,none⟩=some (.int .i64 2))(f:w.cell? ⟨b,o+2,none⟩=some (.string y2)):ah 90 #[.agg #[.int .i64 4,.int .i64 d,.string s,.slice (some ⟨b,o,none⟩) l c]] w λe w'=>e=.returned (.tuple #[.string y2,.slice (if c=1 then some ⟨b,o,none⟩else some ⟨b,o+4,none⟩) (l-1) (c-1)])/\ag w w':=by
 have j:((l:Int)==0)=false:=by simp;omega
 have k:(0:Int)<(l:Int):=by omega
 have m:(1:Int)<=(l:Int):=by omega
 have n:(l:Int)<=(c:Int):=by omega
 by_cases a:c=1
 ·rw[if_pos a];obtain rfl:l=1:=by omega
  subst a;go_enter Tryz.func90,Tryz.ntmps90;go_wp2_with fail;go_region
  all_goals go_wp2_with fail
  all_goals exact ap (v:=.tuple #[.string y2,.slice (some ⟨b,o,none⟩) 0 0]) (by simp[results,Tryz.results90,go_sem]) rfl ⟨rfl,aI.drew⟩
 ·rw[if_neg a];go_enter Tryz.func90,Tryz.ntmps90;go_wp2_with fail;go_region
  all_goals go_wp2_with fail
  all_goals exact ap (v:=.tuple #[.string y2,.slice (some ⟨b,o+4,none⟩) (l-1) (c-1)]) (by simp[results,Tryz.results90,go_sem]) rfl ⟨rfl,aI.drew⟩
def bA(g:Nat)(w w':World):Prop:=(w'.os=w.os/\w'.tape=w.tape/\w'.output=w.output)/\w'.heap.size=w.heap.size/\∀b,b≠g->w'.heap[b]?=w.heap[b]?
theorem bA.refl(g:Nat)(w:World):bA g w w:=⟨⟨rfl,rfl,rfl⟩,rfl,λ_ _=>rfl⟩
theorem bA.set{g:Nat}{w w':World}(a:bA g w w')(o:Nat)(v:Value):bA g w (w'.setCell ⟨g,o,none⟩ v):=
 ⟨a.1,by simpa [World.setCell]using a.2.1,λb c=>by
  have:g≠b:=λd=>c d.symm;rw[<-a.2.2 b c]
  simp[World.setCell,bC,this]⟩
theorem bA.below{g:Nat}{w0 w w':World}(a:bA g w w')(c:ag w0 w)(e:w0.heap.size<=g):ag w0 w':=
 ⟨a.1.1.trans c.os,a.1.2.1.trans c.tape,a.1.2.2.trans c.output,by rw[a.2.1];exact c.size,λb d=>(a.2.2 b (by omega)).trans (c.block b d)⟩
theorem bA.stays{c:Type}{a:Nat->World->c->Prop}{d:(Nat->Prop)->c->Prop}(i:jv a d){g:Nat}{w w':World}(e:bA g w w'){P:Nat->Prop}(h:¬P g){x:c}(l:d P x)(k:a w.heap.size w x):a w'.heap.size w' x:=by
 rw[e.2.1];exact i.2.2.1 P _ w w' x (λb j=>e.2.2 b (λf=>h (f▸j))) l k
theorem jG(g:Nat)(w:World)(v0 v1 v2 v3 b c d e f h a:Value):bA g w (((((((((((w.setCell ⟨g,0,none⟩ v0).setCell ⟨g,1,none⟩ v1).setCell ⟨g,2,none⟩ v2).setCell ⟨g,3,none⟩ v3).setCell ⟨g,4,none⟩ b).setCell ⟨g,5,none⟩ c).setCell ⟨g,6,none⟩ d).setCell ⟨g,7,none⟩ e).setCell ⟨g,8,none⟩ f).setCell ⟨g,9,none⟩ h).setCell ⟨g,10,none⟩ a):=bA.set (bA.set (bA.set (bA.set (bA.set (bA.set (bA.set (bA.set (bA.set (bA.set (bA.set (bA.refl _ _) _ _) _ _) _ _) _ _) _ _) _ _) _ _) _ _) _ _) _ _) _ _
theorem qs(g:Nat)(w:World)(v0 v1 v2 v3 d e f h i j a b c:Value):bA g w (((((((((((((w.setCell ⟨g,0,none⟩ v0).setCell ⟨g,1,none⟩ v1).setCell ⟨g,2,none⟩ v2).setCell ⟨g,3,none⟩ v3).setCell ⟨g,4,none⟩ d).setCell ⟨g,5,none⟩ e).setCell ⟨g,6,none⟩ f).setCell ⟨g,7,none⟩ h).setCell ⟨g,8,none⟩ i).setCell ⟨g,9,none⟩ j).setCell ⟨g,10,none⟩ a).setCell ⟨g,11,none⟩ b).setCell ⟨g,12,none⟩ c):=bA.set (bA.set (bA.set (bA.set (bA.set (bA.set (bA.set (bA.set (bA.set (bA.set (bA.set (bA.set (bA.set (bA.refl _ _) _ _) _ _) _ _) _ _) _ _) _ _) _ _) _ _) _ _) _ _) _ _) _ _) _ _
abbrev mQ(M:Nat)(o:Option (Ac (M+1)))(w:World)(e:Ending)(w':World):Prop:=pZ (fM (M+1)) (gZ (M+1)) (lj (M+1)) (BM (M+1)) o w e w'
def NL(M:Nat):Ac (M+1):=(0,(zT M,zT M),(.empty,0))
theorem MY(M B:Nat)(w:World):gZ (M+1) B w (NL M):=⟨by simp[NL,dh],kF _ _ _,kF _ _ _,aB _,by simp[NL,dh]⟩
theorem pE{M:Nat}{o:Option (Ac (M+1))}{w w':World}(b:o=none)(a:ag w w'):mQ M o w (.returned (.tuple #[.agg #[.int .i64 0,.int .i64 0,.int .i64 0,.string .empty,.slice none 0 0,.int .i64 0,.int .i64 0,.string .empty,.slice none 0 0,.string .empty,.int .i64 0],.bool false])) w':=by
 subst b;exact⟨NL M,false,rfl,a,rfl,MY _ _ _,⟨ae rfl,ae rfl⟩,λd c=>by cases c⟩
theorem AC{P:Nat->Prop}:(N n:Nat)->n<=N->(x:Tm n)->bV P n x->bV P N (aK N n x)
 | _,0,_,_,k=>k.elim
 | 0,n+1,h,_,_=>by omega
 | N+1,n+1,h,x,k=>by
  rcases k with k|⟨b,o,e,d,k⟩
  ·exact ae (by simp[aK,k])
  ·refine af ⟨b,o,e,d,λi y a=>?_⟩;simp only[aK,dj]at a;obtain⟨c,f,rfl⟩:=b8.1 a;exact AC N n (by omega) c (k i c f)
theorem im{M n:Nat}(a:n<=M+1){b y:Tm n}{w':World}{P:Nat->Prop}(c:In w'.heap.size w' n y)(d:bV P n y)(e:au n y n b=true):In w'.heap.size w' (M+1) (aK (M+1) n y)/\bV P (M+1) (aK (M+1) n y)/\au (M+1) (aK (M+1) n y) (M+1) (aK (M+1) n b)=true:=
 ⟨nW _ _ a _ _ _ c,AC _ _ a _ d,nV a a e⟩
theorem Hz(w:World)(a b c d:Obj):(((((w.alloc a).alloc b).alloc c).alloc d).heap[w.heap.size]?=some a/\((((w.alloc a).alloc b).alloc c).alloc d).heap[w.heap.size+1]?=some b/\((((w.alloc a).alloc b).alloc c).alloc d).heap[w.heap.size+1+1]?=some c/\((((w.alloc a).alloc b).alloc c).alloc d).heap[w.heap.size+1+1+1]?=some d)/\ag w ((((w.alloc a).alloc b).alloc c).alloc d)/\((((w.alloc a).alloc b).alloc c).alloc d).heap.size=w.heap.size+1+1+1+1:=by
 have f:=jI w a b;have e:=jI ((w.alloc a).alloc b) c d;have g:((w.alloc a).alloc b).heap.size=w.heap.size+1+1:=by simp
 rw[g]at e;refine⟨⟨?_,?_,e.1,e.2⟩,by go_grown,by simp⟩
 ·exact(gg _ d (by simp;omega)).trans ((gg _ c (by simp;omega)).trans f.1)
 ·exact(gg _ d (by simp)).trans ((gg _ c (by simp)).trans f.2)
theorem lp{w:World}{q:Nat}{c0 b d e f g h i k l c:Value}{t:TypeId}(a:w.heap[q]?=some (.cells #[c0,b,d,e,f,g,h,i,k,l,c] t)):(w.cell? ⟨q,0,none⟩=some c0/\w.cell? ⟨q,1,none⟩=some b/\w.cell? ⟨q,2,none⟩=some d/\w.cell? ⟨q,3,none⟩=some e/\w.cell? ⟨q,4,none⟩=some f/\w.cell? ⟨q,5,none⟩=some g/\w.cell? ⟨q,6,none⟩=some h/\w.cell? ⟨q,7,none⟩=some i/\w.cell? ⟨q,8,none⟩=some k/\w.cell? ⟨q,9,none⟩=some l/\w.cell? ⟨q,10,none⟩=some c)/\(∀j,w.frozen? ⟨q,j,none⟩=false)/\q<w.heap.size:=
 ⟨⟨ao a 0,ao a 1,ao a 2,ao a 3,ao a 4,ao a 5,ao a 6,ao a 7,ao a 8,ao a 9,ao a 10⟩,λj=>cI a j,(aA.1 a).1⟩
theorem mG{M:Nat}{o:Option (Ac (M+1))}{w w2 w':World}{g:Nat}(y e:Ac (M+1))(i:o=some e)(d:bA g w2 w')(a:ag w w2)(f:w.heap.size<=g)(h:gZ (M+1) w2.heap.size w2 y)(c:lj (M+1) (λb=>g<b) y)(j:BM (M+1) y e):mQ M o w (.returned (.tuple #[.agg (fM (M+1) y).toArray,.bool true])) w':=by
 subst i;exact⟨y,true,rfl,d.below a f,rfl,d.stays (fh _) (P:=λb=>g<b) (by omega) c h,(fh _).1 _ _ _ (λb a=>by omega) c,λl k=>by obtain rfl:=aq k;exact j⟩
section
variable {P:Program}
end
theorem fJ{g:Nat}{w w':World}(a:bA g w w'){b:Nat}(c:b≠g)(o:Nat):w'.cell? ⟨b,o,none⟩=w.cell? ⟨b,o,none⟩:=bk (a.2.2 b c) o
theorem Le{q:Nat}{w w':World}{v0 v1 v2 v3 b c:Value}(a:bA (q+1+1+1) w w')(k:(w.cell? ⟨q,2,none⟩=some v0/\w.cell? ⟨q+1+1,1,none⟩=some v1)/\w.cell? ⟨q+1,0,none⟩=some v2/\w.cell? ⟨q+1,1,none⟩=some v3/\w.cell? ⟨q+1,2,none⟩=some b/\w.cell? ⟨q+1,3,none⟩=some c):(w'.cell? ⟨q,2,none⟩=some v0/\w'.cell? ⟨q+1+1,1,none⟩=some v1)/\w'.cell? ⟨q+1,0,none⟩=some v2/\w'.cell? ⟨q+1,1,none⟩=some v3/\w'.cell? ⟨q+1,2,none⟩=some b/\w'.cell? ⟨q+1,3,none⟩=some c:=
 ⟨⟨(fJ a (by omega) _).trans k.1.1,(fJ a (by omega) _).trans k.1.2⟩,(fJ a (by omega) _).trans k.2.1,(fJ a (by omega) _).trans k.2.2.1,(fJ a (by omega) _).trans k.2.2.2.1,(fJ a (by omega) _).trans k.2.2.2.2⟩
theorem vn(M n:Nat)(an:n+1<=M+1)(a b c:Tm (n+1))(B:Nat)(w:World)(u:In B w (n+1) a)(x:In B w (n+1) b)(y:In B w (n+1) c)(z:av ⟨n+1,a⟩)(A:av ⟨n+1,b⟩)(L:B<=w.heap.size):ah 169 #[.agg #[.int .i64 a.1.1,.int .i64 a.1.2.1,.string a.1.2.2,.slice a.2.1.1 a.2.2.length a.2.1.2],.agg #[.int .i64 b.1.1,.int .i64 b.1.2.1,.string b.1.2.2,.slice b.2.1.1 b.2.2.length b.2.1.2],.agg #[.int .i64 c.1.1,.int .i64 c.1.2.1,.string c.1.2.2,.slice c.2.1.1 c.2.2.length c.2.1.2]] w (mQ M (yk M (n+1) a b c) w):=by
 obtain⟨o,i⟩:∃o,o=yk M (n+1) a b c:=⟨_,rfl⟩;rw[<-i];by_cases f:a.1.1=2
 ·by_cases m:c.1.1=5
  ·have q:Hid (o=some (2,(zT M,aK (M+1) (n+1) b),(a.1.2.2,c.1.2.1))):=by
     show _=_;rw[i];simp[yk,bK,f,m,vU,oN,fQ,bu]
   clear i;have K:(a.1.1 !=2)=false:=by simp[f]
   have ad:(c.1.1 !=5)=false:=by simp[m]
   have aq:a.1.2.2.size<=2048:=by
    have:=z (bu n a) (by simp[ar,bu]);have ai:dC a.1.2.2=true:=by
     simp only[cm,bu,f]at this;simp at this;exact this.1.1
    simp only[dC,pT,ay,bT]at ai;omega
   have O:Hid (∀j,ag w j->ah 54 #[.agg #[.int .i64 b.1.1,.int .i64 b.1.2.1,.string b.1.2.2,.slice b.2.1.1 b.2.2.length b.2.1.2]] j λl e=>∃d:Tm (n+1),l=.returned (.agg #[.int .i64 d.1.1,.int .i64 d.1.2.1,.string d.1.2.2,.slice d.2.1.1 d.2.2.length d.2.1.2])/\Hid (ag j e/\In e.heap.size e (n+1) d/\bV (λC=>j.heap.size<=C) (n+1) d/\au (n+1) d (n+1) b=true)):=
    λj t=>gM (n+1) b B j (x.below (t.mono L)) (aw L t.size) A
   have J:Hid (a.1.2.2.size<=maxLen/\dh c.1.2.1):=⟨u.1.2.2.1,y.1.2.1⟩;clear u x y z A f m;go_enter Tryz.func169,Tryz.ntmps169;go_wp2_with fail;have h:=aj (Hz w (.cells #[.int .i64 a.1.1,.int .i64 a.1.2.1,.string a.1.2.2,.slice a.2.1.1 a.2.2.length a.2.1.2] 30) (.cells #[.int .i64 b.1.1,.int .i64 b.1.2.1,.string b.1.2.2,.slice b.2.1.1 b.2.2.length b.2.1.2] 30) (.cells #[.int .i64 c.1.1,.int .i64 c.1.2.1,.string c.1.2.2,.slice c.2.1.1 c.2.2.length c.2.1.2] 30) (.cells #[.int .i64 0,.int .i64 0,.int .i64 0,.string ⟨#[]⟩,.slice none 0 0,.int .i64 0,.int .i64 0,.string ⟨#[]⟩,.slice none 0 0,.string ⟨#[]⟩,.int .i64 0] 224));generalize N:(((w.alloc _).alloc _).alloc _).alloc _=F;rw[N]at h;clear N;have p:Hid (∀e,ag F e->(e.cell? ⟨w.heap.size,2,none⟩=some (.string a.1.2.2)/\e.cell? ⟨w.heap.size+1+1,1,none⟩=some (.int .i64 c.1.2.1))/\e.cell? ⟨w.heap.size+1,0,none⟩=some (.int .i64 b.1.1)/\e.cell? ⟨w.heap.size+1,1,none⟩=some (.int .i64 b.1.2.1)/\e.cell? ⟨w.heap.size+1,2,none⟩=some (.string b.1.2.2)/\e.cell? ⟨w.heap.size+1,3,none⟩=some (.slice b.2.1.1 b.2.2.length b.2.1.2)):=λe G=>by
    have l:=h.out.2.2;have t:=(G.block w.heap.size (by omega)).trans h.out.1.1;have f:=(G.block (w.heap.size+1) (by omega)).trans h.out.1.2.1;have af:=(G.block (w.heap.size+1+1) (by omega)).trans h.out.1.2.2.1;exact⟨⟨ao t 2,ao af 1⟩,ao f 0,ao f 1,ao f 2,ao f 3⟩
   obtain⟨⟨ax,aD⟩,az,aA,aB,aC⟩:=p.out F (ak _ _)
   go_region_held3 (λe=>(e.cell? ⟨w.heap.size,2,none⟩=some (.string a.1.2.2)/\e.cell? ⟨w.heap.size+1+1,1,none⟩=some (.int .i64 c.1.2.1))/\e.cell? ⟨w.heap.size+1,0,none⟩=some (.int .i64 b.1.1)/\e.cell? ⟨w.heap.size+1,1,none⟩=some (.int .i64 b.1.2.1)/\e.cell? ⟨w.heap.size+1,2,none⟩=some (.string b.1.2.2)/\e.cell? ⟨w.heap.size+1,3,none⟩=some (.slice b.2.1.1 b.2.2.length b.2.1.2)) (first|with_reducible assumption|with_reducible exact p.out _ r.out|with_reducible exact p.out _ D.out|with_reducible exact P.out _ (jG _ _ _ _ _ _ _ _ _ _ _ _ _)|exact p.out _ (ak _ _).drew)
    ((first
     | (go_at_call 54;refine(O.out _ h.out.2.1.drew).mono ?_;rintro l j ⟨d,rfl,s⟩;have D:=aj (cB s.out.1))
     | (go_at_call 41;refine(dD _ _ aq).mono ?_;rintro l w2 ⟨rfl,H⟩;have I:=aj H;have r:=aj (D.out.trans (H.mono D.out.size));have Q:=aj ((r.out.block (w.heap.size+1+1+1) (by have:=h.out.2.2;omega)).trans h.out.1.2.2.2);clear H;obtain⟨⟨S,d1,U,V,W,X,Y,Z,aa,ab,T⟩,aE,aG⟩:=lp Q.out;have P:=aj (λR (am:bA (w.heap.size+1+1+1) w2 R)=>Le am (p.out _ r.out)))))
   go_wp2_with fail;have E:=im (M:=M) an ((s.out.2.1.below I.out).mono I.out.size) (s.out.2.2.1.mono λC (aF:F.heap.size<=C)=>(show w.heap.size+1+1+1<C by have:=h.out.2.2;omega)) s.out.2.2.2;refine ap (v:=.tuple #[.agg #[.int .i64 2,.int .i64 0,.int .i64 0,.string ⟨#[]⟩,.slice none 0 0,.int .i64 d.1.1,.int .i64 d.1.2.1,.string d.1.2.2,.slice d.2.1.1 d.2.2.length d.2.1.2,.string a.1.2.2,.int .i64 c.1.2.1],.bool true]) (by simp[results,Tryz.results169,go_sem,S,d1,U,V,W,X,Y,Z,aa,ab,T]) rfl ?_;have l:fM (M+1) (2,(zT M,aK (M+1) (n+1) d),(a.1.2.2,c.1.2.1))=[.int .i64 2,.int .i64 0,.int .i64 0,.string ⟨#[]⟩,.slice none 0 0,.int .i64 d.1.1,.int .i64 d.1.2.1,.string d.1.2.2,.slice d.2.1.1 d.2.2.length d.2.1.2,.string a.1.2.2,.int .i64 c.1.2.1]:=by
    show .int .i64 2::(gR (M+1) (zT M)++gR (M+1) (aK (M+1) (n+1) d)++ [.string a.1.2.2,.int .i64 c.1.2.1])=_;rw[fT];rfl
   have k:=λ(e:World)(al:bA (w.heap.size+1+1+1) w2 e)=>mG (g:=w.heap.size+1+1+1) (w2:=w2) (2,(zT M,aK (M+1) (n+1) d),(a.1.2.2,c.1.2.1)) (2,(zT M,aK (M+1) (n+1) b),(a.1.2.2,c.1.2.1)) q.out (w:=w) al (h.out.2.1.trans (r.out.mono h.out.2.1.size)) (by omega) ⟨by simp[dh],kF _ _ _,E.1,J.out.1,J.out.2⟩ ⟨ae rfl,E.2.1⟩ ⟨rfl,kP (kF _ 0 w),E.2.2,rfl⟩;rw[l]at k;exact k _ (jG _ _ _ _ _ _ _ _ _ _ _ _ _)
  ·have K:(a.1.1 !=2)=false:=by simp[f]
   have ad:(c.1.1 !=5)=true:=by simp[m]
   have q:Hid (o=none):=by
    show _=_;rw[i];simp[yk,bK,m]
   clear i;clear u x y z A f m;go_enter Tryz.func169,Tryz.ntmps169;go_wp2_with fail;exact ap (v:=.tuple #[.agg #[.int .i64 0,.int .i64 0,.int .i64 0,.string .empty,.slice none 0 0,.int .i64 0,.int .i64 0,.string .empty,.slice none 0 0,.string .empty,.int .i64 0],.bool false]) (by simp[results,Tryz.results169,go_sem];rfl) rfl (pE q.out (by go_grown))
 ·have K:(a.1.1 !=2)=true:=by simp[f]
  have q:Hid (o=none):=by
   show _=_;rw[i];simp[yk,bK,f]
  clear i;clear u x y z A f;go_enter Tryz.func169,Tryz.ntmps169;go_wp2_with fail;exact ap (v:=.tuple #[.agg #[.int .i64 0,.int .i64 0,.int .i64 0,.string .empty,.slice none 0 0,.int .i64 0,.int .i64 0,.string .empty,.slice none 0 0,.string .empty,.int .i64 0],.bool false]) (by simp[results,Tryz.results169,go_sem];rfl) rfl (pE q.out (by go_grown))
end Go.Proofs.YtckamaoibonjcaaGreat
