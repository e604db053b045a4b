/- What is proved here: plain facts and contracts that the claimed theorem stands on. No condition but those that each names. -/
import Derived.Test.YtnidfceinoiboaaGreatG35
import Derived.Laws.Tables
namespace Go.Proofs.YtnidfceinoiboaaGreat
open Go.RowKit
set_option maxHeartbeats 1000000
set_option maxRecDepth 100000
theorem DV(k u:Int)(s:ByteArray)(a:Option Addr)(l c:Nat)(w:World)(b:(k !=4)=true):Calls Tryz.prog 81 #[.agg #[.int .i64 k,.int .i64 u,.string s,.slice a l c]] w λe w'=>e=.returned (.tuple #[.string ⟨#[]⟩,.slice none 0 0])/\Below w.heap.size w w':=by
 go_enter Tryz.func81,Tryz.ntmps81;go_wp2_with fail;exact ao (v:=.tuple #[.string ⟨#[]⟩,.slice none 0 0]) (by simp[results,Tryz.results81,go_sem]) rfl ⟨rfl,aG⟩
theorem zn(u:Int)(s:ByteArray)(a:Option Addr)(c:Nat)(w:World):Calls Tryz.prog 81 #[.agg #[.int .i64 4,.int .i64 u,.string s,.slice a 0 c]] w λe w'=>e=.returned (.tuple #[.string ⟨#[]⟩,.slice none 0 0])/\Below w.heap.size w w':=by
 go_enter Tryz.func81,Tryz.ntmps81;go_wp2_with fail;exact ao (v:=.tuple #[.string ⟨#[]⟩,.slice none 0 0]) (by simp[results,Tryz.results81,go_sem]) rfl ⟨rfl,aG⟩
theorem Bj(u:Int)(s:ByteArray)(b o l c:Nat)(d:0<l)(y0:Int)(h:(y0 !=2)=true)(w:World)(a:b<w.heap.size)(c0:w.cell? ⟨b,o,none⟩=some (.int .i64 y0)):Calls Tryz.prog 81 #[.agg #[.int .i64 4,.int .i64 u,.string s,.slice (some ⟨b,o,none⟩) l c]] w λe w'=>e=.returned (.tuple #[.string ⟨#[]⟩,.slice none 0 0])/\Below w.heap.size w w':=by
 have f:((l:Int)==0)=false:=by simp;omega
 have g:(0:Int)<(l:Int):=by omega
 go_enter Tryz.func81,Tryz.ntmps81;go_wp2_with fail;exact ao (v:=.tuple #[.string ⟨#[]⟩,.slice none 0 0]) (by simp[results,Tryz.results81,go_sem]) rfl ⟨rfl,aG⟩
theorem DU(u:Int)(s:ByteArray)(b o l c:Nat)(h:0<l)(n:l<=c)(g:c<=9223372036854775807)(y2:ByteArray)(w:World)(f:b<w.heap.size)(c0:w.cell? ⟨b,o,none⟩=some (.int .i64 2))(d:w.cell? ⟨b,o+2,none⟩=some (.string y2)):Calls Tryz.prog 81 #[.agg #[.int .i64 4,.int .i64 u,.string s,.slice (some ⟨b,o,none⟩) l c]] w λe w'=>e=.returned (.tuple #[.string y2,.slice (if c=1 then some ⟨b,o,none⟩else some ⟨b,o+4,none⟩) (l-1) (c-1)])/\Below w.heap.size w w':=by
 have i:((l:Int)==0)=false:=by simp;omega
 have j:(0:Int)<(l:Int):=by omega
 have k:(1:Int)<=(l:Int):=by omega
 have m:(l:Int)<=(c:Int):=by omega
 by_cases a:c=1
 ·rw[if_pos a];obtain rfl:l=1:=by omega
  subst a;go_enter Tryz.func81,Tryz.ntmps81;go_wp2_with fail;go_region
  all_goals go_wp2_with fail
  all_goals exact ao (v:=.tuple #[.string y2,.slice (some ⟨b,o,none⟩) 0 0]) (by simp[results,Tryz.results81,go_sem]) rfl ⟨rfl,aG.drew⟩
 ·rw[if_neg a];go_enter Tryz.func81,Tryz.ntmps81;go_wp2_with fail;go_region
  all_goals go_wp2_with fail
  all_goals exact ao (v:=.tuple #[.string y2,.slice (some ⟨b,o+4,none⟩) (l-1) (c-1)]) (by simp[results,Tryz.results81,go_sem]) rfl ⟨rfl,aG.drew⟩
def bu(g:Nat)(w w':World):Prop:=(w'.os=w.os/\w'.tape=w.tape/\w'.output=w.output)/\w'.heap.size=w.heap.size/\∀b,b≠g->w'.heap[b]?=w.heap[b]?
theorem bu.refl(g:Nat)(w:World):bu g w w:=⟨⟨rfl,rfl,rfl⟩,rfl,λ_ _=>rfl⟩
theorem bu.set{g:Nat}{w w':World}(a:bu g w w')(o:Nat)(v:Value):bu g w (w'.setCell ⟨g,o,none⟩ v):=
 ⟨a.1,by simpa [World.setCell]using a.2.1,λb c=>by
  have:g≠b:=λd=>c d.symm;rw[<-a.2.2 b c]
  simp[World.setCell,bJ,this]⟩
theorem bu.below{g:Nat}{w0 w w':World}(a:bu g w w')(c:Below w0.heap.size w0 w)(e:w0.heap.size<=g):Below w0.heap.size w0 w':=
 ⟨a.1.1.trans c.os,a.1.2.1.trans c.tape,a.1.2.2.trans c.output,by rw[a.2.1];exact c.size,λb d=>(a.2.2 b (by omega)).trans (c.block b d)⟩
theorem bu.stays{a:Type}{I:Nat->World->a->Prop}{c:(Nat->Prop)->a->Prop}(h:jn I c){g:Nat}{w w':World}(d:bu g w w'){P:Nat->Prop}(f:¬P g){x:a}(k:c P x)(j:I w.heap.size w x):I w'.heap.size w' x:=by
 rw[d.2.1];exact h.2.2.1 P _ w w' x (λb i=>d.2.2 b (λe=>f (e▸i))) k j
theorem jw(g:Nat)(w:World)(v0 v1 v2 v3 b c d e f h a:Value):bu g w (((((((((((w.setCell ⟨g,0,none⟩ v0).setCell ⟨g,1,none⟩ v1).setCell ⟨g,2,none⟩ v2).setCell ⟨g,3,none⟩ v3).setCell ⟨g,4,none⟩ b).setCell ⟨g,5,none⟩ c).setCell ⟨g,6,none⟩ d).setCell ⟨g,7,none⟩ e).setCell ⟨g,8,none⟩ f).setCell ⟨g,9,none⟩ h).setCell ⟨g,10,none⟩ a):=bu.set (bu.set (bu.set (bu.set (bu.set (bu.set (bu.set (bu.set (bu.set (bu.set (bu.set (bu.refl _ _) _ _) _ _) _ _) _ _) _ _) _ _) _ _) _ _) _ _) _ _) _ _
theorem pI(g:Nat)(w:World)(v0 v1 v2 v3 d e f h i j a b c:Value):bu g w (((((((((((((w.setCell ⟨g,0,none⟩ v0).setCell ⟨g,1,none⟩ v1).setCell ⟨g,2,none⟩ v2).setCell ⟨g,3,none⟩ v3).setCell ⟨g,4,none⟩ d).setCell ⟨g,5,none⟩ e).setCell ⟨g,6,none⟩ f).setCell ⟨g,7,none⟩ h).setCell ⟨g,8,none⟩ i).setCell ⟨g,9,none⟩ j).setCell ⟨g,10,none⟩ a).setCell ⟨g,11,none⟩ b).setCell ⟨g,12,none⟩ c):=bu.set (bu.set (bu.set (bu.set (bu.set (bu.set (bu.set (bu.set (bu.set (bu.set (bu.set (bu.set (bu.set (bu.refl _ _) _ _) _ _) _ _) _ _) _ _) _ _) _ _) _ _) _ _) _ _) _ _) _ _) _ _
abbrev mu(M:Nat)(o:Option (Ac (M+1)))(w:World)(e:Ending)(w':World):Prop:=pu (fy (M+1)) (gQ (M+1)) (kY (M+1)) (Av (M+1)) o w e w'
def LO(M:Nat):Ac (M+1):=(0,(zT M,zT M),(.empty,0))
theorem KU(M B:Nat)(w:World):gQ (M+1) B w (LO M):=⟨by simp[LO,dc],ky _ _ _,ky _ _ _,aD _,by simp[LO,dc]⟩
theorem oT{M:Nat}{o:Option (Ac (M+1))}{w w':World}(b:o=none)(a:Below w.heap.size w w'):mu M o w (.returned (.tuple #[.agg #[.int .i64 0,.int .i64 0,.int .i64 0,.string .empty,.slice none 0 0,.int .i64 0,.int .i64 0,.string .empty,.slice none 0 0,.string .empty,.int .i64 0],.bool false])) w':=by
 subst b;exact⟨LO M,false,rfl,a,rfl,KU _ _ _,⟨ae rfl,ae rfl⟩,λd c=>by cases c⟩
theorem zk{P:Nat->Prop}:(N n:Nat)->n<=N->(x:Tm n)->ch P n x->ch P N (aI N n x)
 | _,0,_,_,k=>k.elim
 | 0,n+1,h,_,_=>by omega
 | N+1,n+1,h,x,k=>by
  rcases k with k|⟨b,o,e,c,k⟩
  ·exact ae (by simp[aI,k])
  ·refine af ⟨b,o,e,c,λi y a=>?_⟩;simp only[aI,dh]at a;obtain⟨z,d,rfl⟩:=cD.1 a;exact zk N n (by omega) z (k i z d)
theorem hU{M n:Nat}(a:n<=M+1){b y:Tm n}{w':World}{P:Nat->Prop}(c:In w'.heap.size w' n y)(d:ch P n y)(e:aw n y n b=true):In w'.heap.size w' (M+1) (aI (M+1) n y)/\ch P (M+1) (aI (M+1) n y)/\aw (M+1) (aI (M+1) n y) (M+1) (aI (M+1) n b)=true:=
 ⟨nE _ _ a _ _ _ c,zk _ _ a _ d,nD a a e⟩
theorem FI(w:World)(a b c d:Obj):(((((w.alloc a).alloc b).alloc c).alloc d).heap[w.heap.size]?=some a/\((((w.alloc a).alloc b).alloc c).alloc d).heap[w.heap.size+1]?=some b/\((((w.alloc a).alloc b).alloc c).alloc d).heap[w.heap.size+1+1]?=some c/\((((w.alloc a).alloc b).alloc c).alloc d).heap[w.heap.size+1+1+1]?=some d)/\Below w.heap.size w ((((w.alloc a).alloc b).alloc c).alloc d)/\((((w.alloc a).alloc b).alloc c).alloc d).heap.size=w.heap.size+1+1+1+1:=by
 have f:=jz w a b;have e:=jz ((w.alloc a).alloc b) c d;have g:((w.alloc a).alloc b).heap.size=w.heap.size+1+1:=by simp
 rw[g]at e;refine⟨⟨?_,?_,e.1,e.2⟩,by go_grown,by simp⟩
 ·exact(fO _ d (by simp;omega)).trans ((fO _ c (by simp;omega)).trans f.1)
 ·exact(fO _ d (by simp)).trans ((fO _ c (by simp)).trans f.2)
theorem lf{w:World}{q:Nat}{c0 b d e f g h i k l c:Value}{t:TypeId}(a:w.heap[q]?=some (.cells #[c0,b,d,e,f,g,h,i,k,l,c] t)):(w.cell? ⟨q,0,none⟩=some c0/\w.cell? ⟨q,1,none⟩=some b/\w.cell? ⟨q,2,none⟩=some d/\w.cell? ⟨q,3,none⟩=some e/\w.cell? ⟨q,4,none⟩=some f/\w.cell? ⟨q,5,none⟩=some g/\w.cell? ⟨q,6,none⟩=some h/\w.cell? ⟨q,7,none⟩=some i/\w.cell? ⟨q,8,none⟩=some k/\w.cell? ⟨q,9,none⟩=some l/\w.cell? ⟨q,10,none⟩=some c)/\(∀j,w.frozen? ⟨q,j,none⟩=false)/\q<w.heap.size:=
 ⟨⟨am a 0,am a 1,am a 2,am a 3,am a 4,am a 5,am a 6,am a 7,am a 8,am a 9,am a 10⟩,λj=>cG a j,(aE.1 a).1⟩
theorem mg{M:Nat}{o:Option (Ac (M+1))}{w w2 w':World}{g:Nat}(y z:Ac (M+1))(h:o=some z)(d:bu g w2 w')(a:Below w.heap.size w w2)(e:w.heap.size<=g)(f:gQ (M+1) w2.heap.size w2 y)(c:kY (M+1) (λb=>g<b) y)(i:Av (M+1) y z):mu M o w (.returned (.tuple #[.agg (fy (M+1) y).toArray,.bool true])) w':=by
 subst h;exact⟨y,true,rfl,d.below a e,rfl,d.stays (fh _) (P:=λb=>g<b) (by omega) c f,(fh _).1 _ _ _ (λb a=>by omega) c,λk j=>by obtain rfl:=ap j;exact i⟩
section
variable {P:Program}
end
theorem fC{g:Nat}{w w':World}(a:bu g w w'){b:Nat}(c:b≠g)(o:Nat):w'.cell? ⟨b,o,none⟩=w.cell? ⟨b,o,none⟩:=bi (a.2.2 b c) o
theorem Jm{q:Nat}{w w':World}{v0 v1 v2 v3 b c:Value}(a:bu (q+1+1+1) w w')(k:(w.cell? ⟨q,2,none⟩=some v0/\w.cell? ⟨q+1+1,1,none⟩=some v1)/\w.cell? ⟨q+1,0,none⟩=some v2/\w.cell? ⟨q+1,1,none⟩=some v3/\w.cell? ⟨q+1,2,none⟩=some b/\w.cell? ⟨q+1,3,none⟩=some c):(w'.cell? ⟨q,2,none⟩=some v0/\w'.cell? ⟨q+1+1,1,none⟩=some v1)/\w'.cell? ⟨q+1,0,none⟩=some v2/\w'.cell? ⟨q+1,1,none⟩=some v3/\w'.cell? ⟨q+1,2,none⟩=some b/\w'.cell? ⟨q+1,3,none⟩=some c:=
 ⟨⟨(fC a (by omega) _).trans k.1.1,(fC a (by omega) _).trans k.1.2⟩,(fC a (by omega) _).trans k.2.1,(fC a (by omega) _).trans k.2.2.1,(fC a (by omega) _).trans k.2.2.2.1,(fC a (by omega) _).trans k.2.2.2.2⟩
theorem uz(M n:Nat)(al:n+1<=M+1)(a b c:Tm (n+1))(B:Nat)(w:World)(x:In B w (n+1) a)(y:In B w (n+1) b)(z:In B w (n+1) c)(A:aB ⟨n+1,a⟩)(C:aB ⟨n+1,b⟩)(L:B<=w.heap.size):Calls Tryz.prog 155 #[.agg #[.int .i64 a.1.1,.int .i64 a.1.2.1,.string a.1.2.2,.slice a.2.1.1 a.2.2.length a.2.1.2],.agg #[.int .i64 b.1.1,.int .i64 b.1.2.1,.string b.1.2.2,.slice b.2.1.1 b.2.2.length b.2.1.2],.agg #[.int .i64 c.1.1,.int .i64 c.1.2.1,.string c.1.2.2,.slice c.2.1.1 c.2.2.length c.2.1.2]] w (mu M (xb M (n+1) a b c) w):=by
 obtain⟨o,j⟩:∃o,o=xb M (n+1) a b c:=⟨_,rfl⟩;rw[<-j];by_cases f:a.1.1=2
 ·by_cases m:c.1.1=5
  ·have q:Hid (o=some (2,(zT M,aI (M+1) (n+1) b),(a.1.2.2,c.1.2.1))):=by
     show _=_;rw[j];simp[xb,bE,f,m,vg,om,iv,bm]
   clear j;have K:(a.1.1 !=2)=false:=by simp[f]
   have ad:(c.1.1 !=5)=false:=by simp[m]
   have an:a.1.2.2.size<=2048:=by
    have:=A (bm n a) (by simp[aq,bm]);have ag:cg a.1.2.2=true:=by
     simp only[bT,bm,f]at this;simp at this;exact this.1.1
    simp only[cg,kK,az,bN]at ag;omega
   have O:Hid (∀i,Below w.heap.size w i->Calls Tryz.prog 45 #[.agg #[.int .i64 b.1.1,.int .i64 b.1.2.1,.string b.1.2.2,.slice b.2.1.1 b.2.2.length b.2.1.2]] i λl e=>∃d:Tm (n+1),l=.returned (.agg #[.int .i64 d.1.1,.int .i64 d.1.2.1,.string d.1.2.2,.slice d.2.1.1 d.2.2.length d.2.1.2])/\Hid (Below i.heap.size i e/\In e.heap.size e (n+1) d/\ch (λD=>i.heap.size<=D) (n+1) d/\aw (n+1) d (n+1) b=true)):=
    λi u=>gz (n+1) b B i (y.below (u.mono L)) (au L u.size) C
   have J:Hid (a.1.2.2.size<=maxLen/\dc c.1.2.1):=⟨x.1.2.2.1,z.1.2.1⟩;clear x y z A C f m;go_enter Tryz.func155,Tryz.ntmps155;go_wp2_with fail;have h:=ai (FI w (.cells #[.int .i64 a.1.1,.int .i64 a.1.2.1,.string a.1.2.2,.slice a.2.1.1 a.2.2.length a.2.1.2] 30) (.cells #[.int .i64 b.1.1,.int .i64 b.1.2.1,.string b.1.2.2,.slice b.2.1.1 b.2.2.length b.2.1.2] 30) (.cells #[.int .i64 c.1.1,.int .i64 c.1.2.1,.string c.1.2.2,.slice c.2.1.1 c.2.2.length c.2.1.2] 30) (.cells #[.int .i64 0,.int .i64 0,.int .i64 0,.string ⟨#[]⟩,.slice none 0 0,.int .i64 0,.int .i64 0,.string ⟨#[]⟩,.slice none 0 0,.string ⟨#[]⟩,.int .i64 0] 83));generalize N:(((w.alloc _).alloc _).alloc _).alloc _=t;rw[N]at h;clear N;have p:Hid (∀e,Below t.heap.size t e->(e.cell? ⟨w.heap.size,2,none⟩=some (.string a.1.2.2)/\e.cell? ⟨w.heap.size+1+1,1,none⟩=some (.int .i64 c.1.2.1))/\e.cell? ⟨w.heap.size+1,0,none⟩=some (.int .i64 b.1.1)/\e.cell? ⟨w.heap.size+1,1,none⟩=some (.int .i64 b.1.2.1)/\e.cell? ⟨w.heap.size+1,2,none⟩=some (.string b.1.2.2)/\e.cell? ⟨w.heap.size+1,3,none⟩=some (.slice b.2.1.1 b.2.2.length b.2.1.2)):=λe G=>by
    have l:=h.out.2.2;have u:=(G.block w.heap.size (by omega)).trans h.out.1.1;have f:=(G.block (w.heap.size+1) (by omega)).trans h.out.1.2.1;have af:=(G.block (w.heap.size+1+1) (by omega)).trans h.out.1.2.2.1;exact⟨⟨am u 2,am af 1⟩,am f 0,am f 1,am f 2,am f 3⟩
   obtain⟨⟨ap,aA⟩,ar,av,ax,ay⟩:=p.out t (ah _ _)
   go_region_held3 (λe=>(e.cell? ⟨w.heap.size,2,none⟩=some (.string a.1.2.2)/\e.cell? ⟨w.heap.size+1+1,1,none⟩=some (.int .i64 c.1.2.1))/\e.cell? ⟨w.heap.size+1,0,none⟩=some (.int .i64 b.1.1)/\e.cell? ⟨w.heap.size+1,1,none⟩=some (.int .i64 b.1.2.1)/\e.cell? ⟨w.heap.size+1,2,none⟩=some (.string b.1.2.2)/\e.cell? ⟨w.heap.size+1,3,none⟩=some (.slice b.2.1.1 b.2.2.length b.2.1.2)) (first|with_reducible assumption|with_reducible exact p.out _ r.out|with_reducible exact p.out _ E.out|with_reducible exact P.out _ (jw _ _ _ _ _ _ _ _ _ _ _ _ _)|exact p.out _ (ah _ _).drew)
    ((first
     | (go_at_call 45;refine(O.out _ h.out.2.1.drew).mono ?_;rintro l i ⟨d,rfl,s⟩;have E:=ai (co s.out.1))
     | (go_at_call 49;refine(dD _ _ an).mono ?_;rintro l w2 ⟨rfl,H⟩;have I:=ai H;have r:=ai (E.out.trans (H.mono E.out.size));have Q:=ai ((r.out.block (w.heap.size+1+1+1) (by have:=h.out.2.2;omega)).trans h.out.1.2.2.2);clear H;obtain⟨⟨S,d1,U,V,W,X,Y,Z,aa,ab,T⟩,aC,aE⟩:=lf Q.out;have P:=ai (λR (ak:bu (w.heap.size+1+1+1) w2 R)=>Jm ak (p.out _ r.out)))))
   go_wp2_with fail;have F:=hU (M:=M) al ((s.out.2.1.below I.out).mono I.out.size) (s.out.2.2.1.mono λD (aD:t.heap.size<=D)=>(show w.heap.size+1+1+1<D by have:=h.out.2.2;omega)) s.out.2.2.2;refine ao (v:=.tuple #[.agg #[.int .i64 2,.int .i64 0,.int .i64 0,.string ⟨#[]⟩,.slice none 0 0,.int .i64 d.1.1,.int .i64 d.1.2.1,.string d.1.2.2,.slice d.2.1.1 d.2.2.length d.2.1.2,.string a.1.2.2,.int .i64 c.1.2.1],.bool true]) (by simp[results,Tryz.results155,go_sem,S,d1,U,V,W,X,Y,Z,aa,ab,T]) rfl ?_;have l:fy (M+1) (2,(zT M,aI (M+1) (n+1) d),(a.1.2.2,c.1.2.1))=[.int .i64 2,.int .i64 0,.int .i64 0,.string ⟨#[]⟩,.slice none 0 0,.int .i64 d.1.1,.int .i64 d.1.2.1,.string d.1.2.2,.slice d.2.1.1 d.2.2.length d.2.1.2,.string a.1.2.2,.int .i64 c.1.2.1]:=by
    show .int .i64 2::(gq (M+1) (zT M)++gq (M+1) (aI (M+1) (n+1) d)++ [.string a.1.2.2,.int .i64 c.1.2.1])=_;rw[fI];rfl
   have k:=λ(e:World)(aj:bu (w.heap.size+1+1+1) w2 e)=>mg (g:=w.heap.size+1+1+1) (w2:=w2) (2,(zT M,aI (M+1) (n+1) d),(a.1.2.2,c.1.2.1)) (2,(zT M,aI (M+1) (n+1) b),(a.1.2.2,c.1.2.1)) q.out (w:=w) aj (h.out.2.1.trans (r.out.mono h.out.2.1.size)) (by omega) ⟨by simp[dc],ky _ _ _,F.1,J.out.1,J.out.2⟩ ⟨ae rfl,F.2.1⟩ ⟨rfl,kL (ky _ 0 w),F.2.2,rfl⟩;rw[l]at k;exact k _ (jw _ _ _ _ _ _ _ _ _ _ _ _ _)
  ·have K:(a.1.1 !=2)=false:=by simp[f]
   have ad:(c.1.1 !=5)=true:=by simp[m]
   have q:Hid (o=none):=by
    show _=_;rw[j];simp[xb,bE,m]
   clear j;clear x y z A C f m;go_enter Tryz.func155,Tryz.ntmps155;go_wp2_with fail;exact ao (v:=.tuple #[.agg #[.int .i64 0,.int .i64 0,.int .i64 0,.string .empty,.slice none 0 0,.int .i64 0,.int .i64 0,.string .empty,.slice none 0 0,.string .empty,.int .i64 0],.bool false]) (by simp[results,Tryz.results155,go_sem];rfl) rfl (oT q.out (by go_grown))
 ·have K:(a.1.1 !=2)=true:=by simp[f]
  have q:Hid (o=none):=by
   show _=_;rw[j];simp[xb,bE,f]
  clear j;clear x y z A C f;go_enter Tryz.func155,Tryz.ntmps155;go_wp2_with fail;exact ao (v:=.tuple #[.agg #[.int .i64 0,.int .i64 0,.int .i64 0,.string .empty,.slice none 0 0,.int .i64 0,.int .i64 0,.string .empty,.slice none 0 0,.string .empty,.int .i64 0],.bool false]) (by simp[results,Tryz.results155,go_sem];rfl) rfl (oT q.out (by go_grown))
end Go.Proofs.YtnidfceinoiboaaGreat
