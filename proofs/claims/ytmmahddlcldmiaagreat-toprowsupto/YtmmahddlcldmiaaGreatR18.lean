/- Proved here: plain facts and contracts. No condition but what each names. -/
import Derived.Test.YtmmahddlcldmiaaGreatR17
import Derived.Shelf.SortM.Plain
import Derived.Shelf.SortM.SortNone
import Derived.Test.YtmmahddlcldmiaaGreatR16
import Derived.Test.YtmmahddlcldmiaaGreatR15
namespace Go.Proofs.YtmmahddlcldmiaaGreat
open Go.RowKit Go.Maps Go.Sort Go.Shelf Go.Proofs.Tryz
open Go.RowKit
set_option maxRecDepth 100000
set_option maxHeartbeats 1000000
theorem Nl{j:Type}{f:j->Value}{w:World}{i:Nat}{l:List (Int×j)}(m:xk f w i l)(q:∀p∈l,(Lit.int .i64 p.1).wf=true)(z:l.length<=maxLen):∃D:DataW Value,w.ownsMap Tryz.prog 3 l7 i l.length D/\(intKeys D).Perm (l.map (·.1))/\Maps.size D=l.length:=by
 obtain⟨es,k,n,d,o⟩:=m;have h:∀x∈es.toList,∃a,x.key=.int .i64 a/\WideElems.rd Tryz.prog 3 l7 x=some (.int .i64 a,.held x.val):=λx c=>by
  have t:(x.key,x.val)∈l.map λp=>(Value.int .i64 p.1,f p.2):=d▸cu.2 ⟨x,c,rfl⟩;obtain⟨p,r,b⟩:=cu.1 t;have e:x.key=.int .i64 p.1:=(congrArg Prod.fst b).symm;refine⟨p.1,e,?_⟩;unfold WideElems.rd;rw[e,keyOf_int_mk underlying3 (q p r)];rfl
 have s:es.size=l.length:=by
  have:=congrArg List.length d;simpa using this
 refine⟨_,⟨es,k,n,⟨by omega,o,λx c=>?_⟩,by omega,rfl⟩,?_,?_⟩
 ·obtain⟨a,_,b⟩:=h x c;exact⟨_,b⟩
 ·have b:es.toList.map (λx=>Go.intOf (WideElems.rg Tryz.prog 3 l7 x).1)=l.map (·.1):=by
    have g:=congrArg (List.map λy:Value×Value=>match y.1 with| .int _ a=>a|_=>0) d;rw[gW,gW]at g;refine(jH λx c=>?_).trans (g.trans (jH λp _=>rfl));obtain⟨a,u,v⟩:=h x c;rw[WideElems.rg_of v];simp only[Function.comp,u,Go.intOf]
  rw[<-b];have:=(WideShapes.sorted_perm (es.toList.map (WideElems.rg Tryz.prog 3 l7))).map λp=>Go.intOf p.1;rw[gW]at this;exact this
 ·rw[<-s];simpa [Maps.size]using (WideShapes.sorted_perm (es.toList.map (WideElems.rg Tryz.prog 3 (l7)))).length_eq
theorem Pv(m:Nat):AnyZI.SortsIn Tryz.prog Tryz.sortedA_ren Fence.wide m:=
 ⟨λb off cap g a c d e=>lB.2 (AnyM.slices_Sort_int Tryz.sortA b off cap g a c d e),λf cap a=>lB.2 (AnyM.slices_Sort_int_none Tryz.sortA f cap a)⟩
theorem vb(g:Nat)(f:Option Nat)(w:World)(S:List Int->Prop)(N:Nat)(m:w.cell? ⟨g,3,none⟩=some (.map f))(o:N<=1000)(l:SeqGives Fence.wide 2 Tryz.prog 59 #[.pointer (some ⟨w.heap.size,0,none⟩)] encZ S N (w.alloc (.cells #[.map f] 67))):Calls Tryz.prog 12 #[.pointer (some ⟨g,0,none⟩)] w λe w'=>∃v c,e=.returned v/\S c/\jf w.heap.size v (c.mergeSort leI) w'/\Below w.heap.size w w':=by
 refine(lB (n:=6)).1 ?_;have h:∀b a,CallsIn Fence.wide 5 Tryz.prog 31 #[.map b] a λe w'=>e=.returned (.func (.func 59) #[] #[.pointer (some ⟨a.heap.size,0,none⟩)])/\w'=a.alloc (.cells #[.map b] 67):=λb a=>AnyZI.keys_in Tryz.keysA Fence.wide 5 trivial rfl b a;have d:=AnyZI.sorted_in Tryz.sortedA Fence.wide 5 trivial trivial trivial trivial rfl (by omega) (Pv _) (enters_of func58 (by kernel_rfl) rfl) 59 #[.pointer (some ⟨w.heap.size,0,none⟩)] trivial (enters_of func59 (by kernel_rfl) rfl) _ _ (by unfold maxLen;omega) (by omega) _ l;change CallsIn _ _ Tryz.prog 30 _ _ _ at d;have p:Fence.wide.fn 31:=trivial;have q:Fence.wide.fn 30:=trivial;refine callsIn_of_wp func12 rfl trivial ?_ rfl;simp only[ntmps12,ew,bA,iU,Nat.reduceAdd,Nat.reduceSub,pH,pI,pR,pN,iy,eW]
 gi_wp2_with (first
  | (gi_at_call 31;refine(h _ _).mono ?_;rintro e w' ⟨rfl,rfl⟩)
  | (gi_at_call 30;refine d.mono ?_;rintro e w' ⟨v,c,rfl,i,k,r,j⟩))
 go_ret
 refine⟨v,c,rfl,i,?_,((aA _ w).alloc (av _) _).trans (j.mono (by simp))⟩;have:=ownsRow_base_a k (by simp:w.heap.size<=_);unfold jf;rw[List.length_mergeSort];exact this
section
variable {p:lG} {s:Sy} {d:gE} {w:World}
theorem bC.aliveL(i:bC p s d w):Calls Tryz.prog 12 #[.pointer (some ⟨p.b,0,none⟩)] w λe w'=>∃v q,e=.returned v/\q.Perm (s.ps.map (·.1))/\q=(s.ps.map (·.1)).mergeSort leI/\jf w.heap.size v q w'/\Below w.heap.size w w':=by
 obtain⟨c,C,u,D,E,F⟩:=i.keys;have G:d.l.length=s.ps.length:=by
  have:=congrArg List.length c;simpa using this
 have g:=i.cells.2.2.2;have o:Below w.heap.size w (w.alloc (.cells #[.map d.po] 67)):=(aA _ w).alloc (av _) _;rcases i.pm with⟨n,h⟩|⟨k,n,_,_,h⟩
 ·rw[n]at g o;refine(vb p.b none w (λa=>a=[]) 0 g (by omega) (AnyZI.keys_gives_nil (ρ:=Tryz.keysA_ren) {Tryz.keysA with} Fence.wide _ trivial rfl w.heap.size _ (by simp) (by simp))).mono ?_;rintro e w' ⟨v,a,rfl,rfl,f,j⟩;exact⟨v,[],rfl,by rw[<-c,h];exact List.Perm.refl _,by rw[<-c,h];simp,by simpa using f,j⟩
 ·rw[n]at g o;have j:=i.low k (by omega)
  obtain⟨m,z,A,H⟩:=Nl (h.kept (o.block k (by omega))) (λt y=>by
   have:t.1∈s.ps.map (·.1):=c▸cu.2 ⟨t,y,rfl⟩;obtain⟨B,f,e⟩:=cu.1 this;have:=u B f;simp[Lit.wf,IntKind.min,IntKind.max,IntKind.signed,IntKind.bits]
   omega) (by unfold maxLen;omega)
  refine(vb p.b (some k) w (λa=>a.Perm (intKeys m)) (Maps.size m) g (by omega) (AnyZI.keys_gives (ρ:=Tryz.keysA_ren) {Tryz.keysA with} Fence.wide _ trivial rfl (by omega) w.heap.size k _ m _ (by simp) (by simp) z)).mono ?_;rintro e w' ⟨v,a,rfl,x,f,j⟩;have r:=x.trans (A.trans (List.Perm.of_eq c));exact⟨v,_,rfl,(List.mergeSort_perm a leI).trans r,mergeSort_of_perm_i r,f,j⟩
end
theorem wY{s:aq}{t:Tc}(j:o7 s 13 t)(m:bJ 13 t=0)(W:ag):ao 22 #[ab 1,af s] W λe w'=>∃y0 y1 y2 ya yl yc,e=.returned (.agg #[ab 3,ab 1,ab 0,ab y0,ab y1,af y2,ae ya yl yc])/\Hid (oz t W.heap.size y0 y1 y2 ya yl yc w'/\am W w'):=by
 refine Jg 1 s W (λy0 y1 y2 ya yl yc c=>oz t W.heap.size y0 y1 y2 ya yl yc c) λi v w=>(Cr j m i).mono ?_;rintro e w' ⟨a,x,rfl,h⟩;obtain⟨k,d,l,f⟩:=h;have y:=f.size;refine⟨_,_,_,_,_,_,rfl,f,λc n=>?_⟩;have o:oz t (W.heap.size+1) x.1.1 x.1.2.1 x.1.2.2 x.2.1.1 x.2.2.length x.2.1.2 w':=⟨a,x,⟨rfl,rfl,rfl⟩,k,d,(In.offB l d).mono λg b=>⟨by omega,b.2⟩⟩;obtain⟨a,x,p,q,r,u⟩:=o.kee n λg z A B=>by omega
 exact⟨a,x,p,q,r,u.mono λg b=>⟨by omega,b.2⟩⟩
theorem Du.grow{w0:ag}{V V':aO}{j:ag}{s:Sy}{i g:Nat}{W b:ag}(l:Du w0 V j s i g W)(d:am W b)(r:∀q,V' q->V q\/(W.heap.size<=q/\q<b.heap.size)):Du w0 V' b s i g b:=by
 obtain⟨t,e,k,f,m,n,c,o,p⟩:=l;have u:=p.size;have v:=d.size;refine⟨t,e,k,f.later d,m,n,⟨c.1.trans (d.mono c.1.size),c.2⟩,λq a=>?_,bE.refl _ _⟩;rcases r q a with a|a
 ·have:=o q a;exact⟨by omega,this.2⟩
 ·refine⟨a.2,?_⟩;by_cases h:e.ow q=0
  ·exact h
  ·have:=(f.low q h).2;omega
theorem Fh(w0:ag){a:Nat}{W:ag}(l:uT w0 Mx 0 a W):ao 20 #[aH a,af rj,.agg #[ab 1,ab 2,af ⟨#[]⟩,ae none 0 0]] W λe w'=>e=.returned (.tuple #[ab 1,ab 0])/\Hid (uT w0 GX 1 a w'):=by
 obtain⟨p,u,rfl,b,⟨c,d⟩,v,m,f⟩:=l;have o:In W.heap.size W 1 (M0 2 0):=BY 1 2 0 (by unfold dN;omega) (by unfold dN;omega) _ _;refine(b.start rj (by decide) (M0 2 0) o (by decide) (by omega) (by omega)).mono ?_;rintro e w' ⟨s,q,rfl,j⟩;obtain⟨⟨g,n⟩,k,h,i⟩:=j;rw[c,wR d]at g h;have r:q=0:=g.trans GY.1;subst r;have t:s=1:=n rfl;subst t;exact⟨rfl,p,k,rfl,h,⟨c,d⟩,by obtain⟨_,_,w,x,y,z⟩:=i;omega,m.trans (sD b i f),f⟩
theorem NQ{g:Nat}{W:ag}(b:W.heap[g]?=some (.cells #[ab 1,ab 2] 3)):ud (ae (some ⟨g,0,none⟩) 2 2) [1,2] W:=by
 refine⟨_,_,rfl,ak ⟨g,0,rfl,(aI.1 b).1,λi k a=>?_⟩⟩
 match i,a with
 | 0,a=>
  obtain rfl:1=k:=by simpa using a
  exact ah b 0
 | 1,a=>
  obtain rfl:2=k:=by simpa using a
  exact ah b 1
 | i+2,a=>simp at a
def ul:Tm 1:=((0,0,⟨#[]⟩),(none,0),[])
theorem K7(B:Nat)(w:ag):In B w 1 ul:=⟨⟨by simp[ul,dN],by simp[ul,dN],aM _,by simp[ul],by simp[ul]⟩,aj rfl⟩
theorem jO{a b:Int}(c:0<=a/\a<=9/\0<=b/\b<=9):I2 (a,b):=by
 unfold I2 dN;simp only;omega
def QY(m a:Nat):Nat->Nat
 | 0=>m
 | 1=>0
 | 2=>a
 | _+3=>0
def xF{m a:Nat}(x:Tm (m+1))(x':Tm (a+1)):(j:Nat)->Tm (QY m a j+1)
 | 0=>x
 | 1=>ul
 | 2=>x'
 | _+3=>ul
theorem oz.parts{t:Tc}{B:Nat}{y0 y1:Int}{y2:aq}{ya:ar}{yl yc:Nat}{W:ag}(b:oz t B y0 y1 y2 ya yl yc W)(e:bJ 13 t=0):∃(m:Nat)(l:List (Tm m)),l.length=yl/\aB (m+1) ((y0,y1,y2),(ya,yc),l) 13 t=true/\In W.heap.size W (m+1) ((y0,y1,y2),(ya,yc),l)/\cD (λq=>B<=q/\q<W.heap.size) (m+1) ((y0,y1,y2),(ya,yc),l)/\(aC (m+1) ((y0,y1,y2),(ya,yc),l)).length<=2097152:=by
 obtain⟨m,x,⟨f1,f2,f3⟩,a,c,d⟩:=b;obtain⟨⟨g,h,i⟩,⟨j,k⟩,f⟩:=x;simp only[eH]at f1 f2;obtain⟨rfl,rfl,rfl⟩:=f1;obtain⟨rfl,rfl⟩:=f2;exact⟨m,f,f3,a,c,d,fD ((cd a).trans e)⟩
theorem Fb(w0:ag){t r g m B2:Nat}{n d f h:ag}{y0 y1:Int}{y2:aq}{ya:ar}{yl yc:Nat}{u v:Int}{w:aq}{x:ar}{B y:Nat}(D:uT w0 GX 1 t n)(F:am n d/\n.heap.size=r/\JA r d)(al:r<m/\r<B2)(M:oz we m y0 y1 y2 ya yl yc d)(p:am d f)(N:oz (bw ua 12) B2 u v w x B y f)(j:am f h)(J:f.heap.size<=g/\h.heap[g]?=some (.cells #[ab 3,ab 1,ab 0,ab y0,ab y1,af y2,ae ya yl yc,ab 1,ab 1,ab 0,ab 0,ab 0,af ⟨#[]⟩,ae none 0 0,ab 3,ab 1,ab 0,ab u,ab v,af w,ae x B y,ab 1,ab 1,ab 0,ab 0,ab 0,af ⟨#[]⟩,ae none 0 0,ab 2,ab 1,ab 2,ab 0,ab 0,af ⟨#[]⟩,ae none 0 0,ab 1,ab 2,ab 0,ab 0,ab 0,af ⟨#[]⟩,ae none 0 0] 33)):ao 21 #[aH t,ae (some ⟨g,0,none⟩) 6 6] h λe w'=>e=.returned (.bool true)/\Hid (Du w0 (λq=>q=r) w' (zN GX Mw) 7 t w'/\JA r w'):=by
 obtain⟨o,ad,z⟩:=F;obtain⟨O,Z,rfl,Q,R,S,T⟩:=M.parts qZ.2.1;obtain⟨P,aa,rfl,U,W,X,Y⟩:=N.parts qZ.2.2.1;obtain⟨ai,a⟩:=J;have an:=(aI.1 a).1;have L:=(aI.1 z).1;have ap:=o.size;have au:=p.size;have av:=j.size;have i:=p.trans (j.mono p.size);have E:=o.trans (i.mono o.size);have K:=(i.block r L).trans z;have I:=D.from E (V:=λq=>q=r\/q=g\/(m<=q/\q<d.heap.size)\/(B2<=q/\q<f.heap.size)) λq c=>by rcases c with c|c|c|c<;>omega
 have k:∀{V:aO},In h.heap.size h 1 ul/\cD V 1 ul:=λ{V}=>⟨K7 _ _,aj rfl⟩;have l:(aC 1 ul).length<=2097152:=by decide
 refine(Da I Mw Ki (by decide) g 6 (ak (aj rfl)) (QY O P) (xF ((y0,y1,y2),(ya,yc),Z) ((u,v,w),(x,y),aa)) (λs e b=>?_) (λs e b=>?_)).mono ?_
 ·match s,b with
  | 0,b=>
   obtain rfl:(3,1,0,we)=e:=az b;exact⟨⟨(R.below i).mono i.size,S.mono λq c=>ak (ak (aj c))⟩,T,aj Q,jO (by decide)⟩
  | 1,b=>
   obtain rfl:(1,1,0,sH)=e:=az b;exact⟨k,l,ak (by decide),jO (by decide)⟩
  | 2,b=>
   obtain rfl:(3,1,0,bw ua 12)=e:=az b;exact⟨⟨(W.below j).mono j.size,X.mono λq c=>ak (ak (ak c))⟩,Y,aj U,jO (by decide)⟩
  | 3,b=>
   obtain rfl:(1,1,0,sH)=e:=az b;exact⟨k,l,ak (by decide),jO (by decide)⟩
  | 4,b=>
   obtain rfl:(2,1,2,sH)=e:=az b;exact⟨k,l,ak (by decide),jO (by decide)⟩
  | 5,b=>
   obtain rfl:(1,2,0,sH)=e:=az b;exact⟨k,l,ak (by decide),jO (by decide)⟩
  | _+6,b=>cases b
 ·match s,b with
  | 0,b=>
   obtain rfl:(3,1,0,we)=e:=az b;exact⟨ah a 0,ah a 1,ah a 2,ah a 3,ah a 4,ah a 5,ah a 6⟩
  | 1,b=>
   obtain rfl:(1,1,0,sH)=e:=az b;exact⟨ah a 7,ah a 8,ah a 9,ah a 10,ah a 11,ah a 12,ah a 13⟩
  | 2,b=>
   obtain rfl:(3,1,0,bw ua 12)=e:=az b;exact⟨ah a 14,ah a 15,ah a 16,ah a 17,ah a 18,ah a 19,ah a 20⟩
  | 3,b=>
   obtain rfl:(1,1,0,sH)=e:=az b;exact⟨ah a 21,ah a 22,ah a 23,ah a 24,ah a 25,ah a 26,ah a 27⟩
  | 4,b=>
   obtain rfl:(2,1,2,sH)=e:=az b;exact⟨ah a 28,ah a 29,ah a 30,ah a 31,ah a 32,ah a 33,ah a 34⟩
  | 5,b=>
   obtain rfl:(1,2,0,sH)=e:=az b;exact⟨ah a 35,ah a 36,ah a 37,ah a 38,ah a 39,ah a 40,ah a 41⟩
  | _+6,b=>cases b
 ·rintro e w' ⟨rfl,C⟩;have A:=C.out;refine⟨rfl,A.grow (aA _ _) λq c=>aj (aj c),?_⟩;obtain⟨_,_,_,_,_,_,_,G,H⟩:=A;exact(H.block r (G r (aj rfl)).1 λc=>c (aj rfl)).trans K
def zk(w0:ag)(a r:Nat)(W:ag):Prop:=Du w0 (λq=>q=r) W (zN GX Mw) 7 a W
theorem Jj(w0:ag){m r q g B:Nat}{i f j:ag}{y0 y1:Int}{y2:aq}{ya:ar}{yl yc:Nat}(w:zk w0 m r i)(y:am i f/\i.heap.size<=q/\f.cell? ⟨q,1,none⟩=some (ab 7))(N:i.heap.size<=B)(E:oz (bw Di 12) B y0 y1 y2 ya yl yc f)(u:JA r f)(h:am f j)(A:f.heap.size<=g/\j.heap[g]?=some (.cells #[ab 3,ab 1,ab 0,ab y0,ab y1,af y2,ae ya yl yc,ab 1,ab 1,ab 0,ab 0,ab 0,af ⟨#[]⟩,ae none 0 0] 33)):ao 21 #[aH m,ae (some ⟨g,0,none⟩) 2 2] j λe w'=>e=.returned (.bool true)/\Hid (uT w0 (zN (zN GX Mw) P7) 9 m w'/\JA r w'/\w'.cell? ⟨q,1,none⟩=some (ab 7)):=by
 obtain⟨k,L,n⟩:=y;obtain⟨F,K,rfl,G,H,I,J⟩:=E.parts qZ.2.2.2;obtain⟨M,a⟩:=A;have O:=(aI.1 a).1;have C:q<f.heap.size:=iC f ⟨q,1,none⟩ n;have D:=(aI.1 u).1;have P:=k.size;have Q:=h.size;have x:=k.trans (h.mono k.size);have z:=w.grow x (V':=λb=>b=r\/b=q\/b=g\/(B<=b/\b<f.heap.size)) λb d=>by
  rcases d with d|d|d|d
  ·exact aj d
  all_goals exact ak (by omega)
 refine(Da z P7 M2 (by decide) g 2 (ak (ak (aj rfl))) (QY F 0) (xF ((y0,y1,y2),(ya,yc),K) ul) (λl e c=>?_) (λl e c=>?_)).mono ?_
 ·match l,c with
  | 0,c=>
   obtain rfl:(3,1,0,bw Di 12)=e:=az c;exact⟨⟨(H.below h).mono h.size,I.mono λb d=>ak (ak (ak d))⟩,J,aj G,jO (by decide)⟩
  | 1,c=>
   obtain rfl:(1,1,0,sH)=e:=az c;exact⟨⟨K7 _ _,aj rfl⟩,show (aC 1 ul).length<=2097152 by decide,ak (by decide),jO (by decide)⟩
  | _+2,c=>cases c
 ·match l,c with
  | 0,c=>
   obtain rfl:(3,1,0,bw Di 12)=e:=az c;exact⟨ah a 0,ah a 1,ah a 2,ah a 3,ah a 4,ah a 5,ah a 6⟩
  | 1,c=>
   obtain rfl:(1,1,0,sH)=e:=az c;exact⟨ah a 7,ah a 8,ah a 9,ah a 10,ah a 11,ah a 12,ah a 13⟩
  | _+2,c=>cases c
 ·rintro e w' ⟨rfl,v⟩;have t:=v.out;refine⟨rfl,t.at,?_⟩;obtain⟨_,_,_,_,_,_,_,o,s⟩:=t;refine⟨(s.block r (o r (aj rfl)).1 λd=>d (aj rfl)).trans ((h.block r D).trans u),?_⟩;rw[s.cell 1 (o q (ak (aj rfl))).1 λd=>d (ak (aj rfl))];exact(h.cell (p:=⟨q,1,none⟩) C).trans n
theorem Je(w0:ag){c r:Nat}{W:ag}(f:zk w0 c r W):ao 15 #[aH c,ab 2] W λe w'=>∃nm l sa sl sc ma k b,e=.returned (.tuple #[af nm,.agg #[ab 1,ab 7,af l,ae sa sl sc],ae ma k b,ab 0])/\am W w':=by
 obtain⟨s,o,rfl,g,_,p,_⟩:=f.at;obtain⟨⟨nm,n,m⟩,j,a⟩:=cG.1 Kj;simp only[eH]at a;obtain⟨rfl,a⟩:=a;refine(g.procS j (by decide) (by omega)).mono ?_;rintro e w' ⟨y0,y1,y2,ya,yl,yc,ma,b,rfl,d⟩;obtain⟨⟨⟨q,x,⟨f1,_,_⟩,i,_⟩,_⟩,h⟩:=d;have:=(bQ i).1;rw[f1,a]at this;simp only[eH]at this;obtain⟨rfl,rfl,rfl⟩:=this;exact⟨_,_,ya,yl,yc,ma,_,b,rfl,h⟩
theorem LB(w:ag):ao 5 #[] w λe w'=>e=.returned (.bool true)/\am w w':=by
 refine IU w (zm w) (λd a=>uT w Mx 0 d a) (λd a=>uT w GX 1 d a) (zk w) (λd a=>uT w (zN (zN GX Mw) P7) 9 d a) (λf c a=>ud (ae f 2 c) [1,2] a) (oz we) (oz (bw ua 12)) (oz (bw Di 12)) (Jb w) (λf l c a b=>LZ w b) (λd a b=>Fh w b) (λa=>wY Qi qZ.2.1 a) (λa=>wY N6 qZ.2.2.1 a) (λa=>wY PB qZ.2.2.2 a) (λd r s H I y z A J y0 y1 y2 ya yl yc L M N O Q P b g m p k D C i=>Fb w b g m p k D C i) (λd r a b=>Je w b) (λd r a x b n=>?_) (λf c s a x b n i=>D8 (b.later n) (NQ i) (by decide)) (λd r K s G y z A y0 y1 y2 ya yl yc b g m p j k i=>Jj w b g m p j k i) λd a b=>?_
 ·obtain⟨E,B,rfl,g,_⟩:=b.at;refine((g.later n).aliveL).mono ?_;rintro e w' ⟨F,q,rfl,_,h,j,o⟩;rw[O7]at h;have h:q=[1,2]:=by
   rw[h];exact List.mergeSort_of_pairwise (by simp[leI])
  subst h;obtain⟨f,c,rfl,v⟩:=j.row;exact⟨f,c,rfl,⟨f,c,rfl,v⟩,o⟩
 ·obtain⟨E,B,rfl,g,_,_,t,_⟩:=b;refine g.aliveL.mono ?_;rintro e w' ⟨F,q,rfl,u,_,j,o⟩;rw[M1]at u;have h:q=[]:=List.Perm.eq_nil u;subst h;obtain⟨f,c,rfl,v⟩:=j.row;exact⟨f,c,rfl,t.trans (o.mono t.size)⟩
theorem GH(n:Nat)(l:List (Bh (n+1)))(room:Int){m:Nat}(d:List (Sk m)):(vg n l room d).ways=(λ_=> [])/\∀e∈(vg n l room d).evs,e.1≠dV:=by
 refine fm (P:=λs=>s.ways=(λ_=> [])/\∀e∈s.evs,e.1≠dV) (λ(s:Sy)(c:Sk m)=>(s.start n l room c.1 (m+1) c.2).1) d (λs c _ a=>?_) (s:=Mx) ⟨rfl,λe b=>by cases b⟩;unfold Sy.start;split
 ·exact a
 ·split
  ·exact a
  ·split
   ·exact a
   ·refine⟨a.1,λe b=>?_⟩;rcases de.1 b with f|f
    ·exact a.2 e f
    ·rw[dC.1 f];exact qG.1
theorem CU{k:aY}{l:List (aq×Int×Int×Tc)}(a:∀e∈l,e.1≠dV):tp k l=[]:=List.filterMap_eq_nil_iff.2 λe b=>if_neg λc=>a e b c.1
theorem NO{n:Nat}{l:List (Bh (n+1))}{room:Int}{w0 W:ag}{i v m j s0:Nat}{s:Sy}(I:PK n l room w0 i v m s j s0 W)(N:i<=110):ao 14 #[aH v] W λe w'=>∃a n c,e=.returned (ae a n c)/\n<=1000000/\Hid (Q1 w0 m n a w'):=by
 obtain⟨f,h,r,K,⟨H,Q⟩,ah⟩:=I;have ad:=r.evs;refine(r.ways N).mono ?_;rintro e w' ⟨ai,rfl,z⟩;obtain⟨⟨g,S,u,U⟩,V⟩:=z.out;have T:=u;obtain⟨a,c,rfl,u⟩:=u;refine⟨a,g.length,c,rfl,U,λ_ W=>fX n l room w0 i v m (m+1) (s0+j) s f h (λ_=>False) W/\xp (ae a g.length c) g W,⟨r.later V λ_ d=>aj d,T⟩,?_,λW G=>G.1.below⟩;rintro k A O ⟨w,t⟩;obtain⟨C,D,p,y⟩:=t;have t:xp (ae a g.length c) g A:=⟨C,D,p,y⟩;simp only[Value.slice.injEq]at p;obtain⟨rfl,_,rfl⟩:=p;obtain⟨b,o⟩:∃b,g[k]?=some b:=⟨_,aN O⟩;rcases y with d|⟨X,rfl,_,J⟩
 ·rw[d]at o;simp at o
 obtain⟨x,R⟩:=(S b).1 (aL o);obtain⟨E,F⟩:=J k b o;have af:(f b).length=(tp b s.evs).length:=by
  rw[<-dS (cn 13),K b x,Q]
 have M:h b<(f b).length:=by
  by_cases d:h b<(f b).length
  ·exact d
  ·refine absurd ?_ R;rw[(H.1 b).2];exact gt (by omega)
 have L:(f b).length<=100000:=by
  have:(tp b s.evs).length<=s.evs.length:=tB _ _;omega
 obtain⟨aa,ab,P⟩:=w.look x;refine⟨X,0,b.1,b.2,⟨rfl,by rw[cT];exact E,by rw[cT];exact F⟩,h b,(f b).length,ab,aa,⟨M,L⟩,λB q=>?_⟩;obtain⟨Y,Z,_⟩:=P B q;exact⟨⟨w.later q λ_ d=>aj d,t.later q⟩,Y,Z⟩
theorem CH(n:Nat)(l:List (Bh (n+1)))(x:ar)(B:Nat)(room:Int)(C:Nat)(j:List (Sk C))(sa:ar)(sc:Nat)(D:Nat)(xs:List (Hn D))(xa:ar)(xc:Nat)(w:ag)(al:gL (n+1) w.heap.size w x l)(an:l.length<=B)(aq:B<=maxLen)(Y:kT (n+1) l=true->(aC (n+6) (cm n l)).length<=2097152)(av:qz w.heap.size w 5 (Qe C) (JJ C w.heap.size w) sa j)(aw:∀c∈j,(aC (C+1) c.2).length<=2097152)(ax:qz w.heap.size w 7 (Qq D) (Gw D w.heap.size w) xa xs)(ay:∀c∈xs,(aC (D+1) c.2).length<=2097152)(T:j.length<=1048576)(U:xs.length<=1048576):ao 4 #[ae x l.length B,ab room,ae sa j.length sc,ae xa xs.length xc] w λe w'=>e=.returned (.bool true)/\am w w':=by
 obtain⟨g,I⟩:=KA xs ((0,0,0),((0,0,⟨#[]⟩),(none,0),[]));have v:∀{d:ag}{t o:Nat}{L:au},am w d->t<w.heap.size->ai w t o L->ai d t o L:=λ{d t o L} h m q=>(h.cell (p:=⟨t,o,none⟩) m).trans q;have ap:∀d,am w d->gL (n+1) d.heap.size d x l:=λd i=>by
  have N:=cU (eD (n+1)) 2 (p7 (n+1)) x;exact N.2.2.2.1 _ _ _ _ i.size (al.below i)
 have V:=λd (i:am w d)=>C6 n l x B room C j sa sc w d (ap d i) an aq Y av aw T i;obtain⟨r,M⟩:∃r:Nat->Sy,r=Qt n l room xs (vg n l room j):=⟨_,rfl⟩;have aa:∀a,a<xs.length->r (a+1)=((r a).do n l room (g a).1.1 (g a).1.2.1 (g a).1.2.2 (D+1) (g a).2).1:=λa A=>by
  rw[M];exact LN n l room _ (I a A)
 refine Ff x l.length B room sa j.length sc xa xs.length xc (λa=>(g a).1.1) (λa=>(g a).1.2.1) (λa=>(g a).1.2.2) (λa=>(g a).2.1.1) (λa=>(g a).2.1.2.1) (λa=>(g a).2.1.2.2) (λa=>(g a).2.2.1.1) (λa=>(g a).2.2.2.length) (λa=>(g a).2.2.1.2) w
  (λy d=>am w d/\¬(mA n l room≠0\/4<j.length)/\∃p E,p.b=y/\uU n l room w.heap.size 4 p (vg n l room j) E d) (λy J a K d=>PK n l room w (4+a) y J (r a) a K d) U (LB w) (λd i=>?_) (λy d q=>?_) (λy J a K d A az q=>?_) (λy J K d az q=>NO q (by omega))
 ·refine(V d i).mono ?_;rintro e w' (⟨rfl,F⟩|⟨pa,rfl,F⟩)
  ·exact aj ⟨rfl,i.trans (F.out.2.mono i.size)⟩
  ·obtain⟨G,O,p,E,P,s⟩:=F.out;have h:=i.trans (O.mono i.size);exact ak ⟨pa,rfl,h,h,G,p,E,P,s.1,s.2.1,s.2.2.1,s.2.2.2.1,aF i.size s.2.2.2.2⟩
 ·obtain⟨h,G,p,E,rfl,s⟩:=q;have W:mK n l=0:=by
   have:mA n l room=0:=by
    by_cases z:mA n l room=0
    ·exact z
    ·exact absurd (aj z) G
   unfold mA at this;split at this
   ·contradiction
   ·rename_i z;exact Decidable.not_not.1 z
  have S:r 0=vg n l room j:=by rw[M];rfl
  obtain⟨Q,H⟩:=GH n l room j;show PK n l room w 4 p.b d.heap.size (r 0) 0 0 _;rw[S];exact⟨_,_,Lv s h W,λk _=>rfl,⟨⟨λk=>⟨aM _,by rw[Q,CU H];rfl⟩,λe ah z=>absurd z (H e ah)⟩,λk=>by rw[CU H];rfl⟩,aM _⟩
 ·obtain⟨t,o,R,m,u,X⟩:=KJ ax (I a A);obtain⟨f,aB,Z,_⟩:=id q;have h:=Z.below;refine⟨t,o,⟨R,v h m (u 0 _ rfl),v h m (u 1 _ rfl),v h m (u 2 _ rfl),v h m (u 3 _ rfl),v h m (u 4 _ rfl),v h m (u 5 _ rfl),v h m (u 6 _ rfl)⟩,λaA ad af=>?_⟩;have:=Lu q (by omega) (by omega) (g a) X (ay _ (aL (I a A))) ad af;rw[<-aa a A]at this;exact this
theorem uR:(N n:Nat)->n<=N->(x:Tm n)->wt N (bf N n x)=wt n x
 | 0,0,_,_=>rfl
 | N+1,0,_,_=>by simp[bf,wt]
 | N+1,n+1,h,x=>by
  simp only[bf,wt,gW];congr 2;refine jH λy _=>?_;exact uR N n (by omega) y
theorem Mo:(n:Nat)->(x:Tm n)->1<=wt n x
 | 0,_=>by simp[wt]
 | n+1,x=>by simp only[wt];omega
theorem sA{a:Type}(f g:a->Nat)(c:Nat):(l:List a)->(∀y∈l,f y<=g y+c)->(l.map f).sum<=(l.map g).sum+l.length*c
 | [],_=>by simp
 | y::l,h=>by
  have e:=h y (by simp);have i:=sA f g c l λd b=>h d (by simp[b]);simp only[aV,bR,bA,Nat.add_mul,Nat.one_mul];omega
theorem oo(s:aq)(N:Nat):wt (N+1) (bw s N)=1+s.size:=by simp[wt,bw]
theorem oY(N:Nat)(l:List (Tm N)):wt (N+1) (dx N l)=1+(l.map (wt N)).sum:=by simp[wt,dx]
theorem Og(k a:Int)(N:Nat):wt (N+1) (b8 k a N)=1:=by simp[wt,b8]
theorem Mp(n:Nat)(a:Ac (n+1)):wt (n+2) (cH n a)<=Oz (n+1) a+8:=by
 have f:=Mo (n+1) a.2.1.1;have g:=Mo (n+1) a.2.1.2;have b:nt.size=4:=rfl;have c:jy.size=5:=rfl;have d:ns.size=4:=rfl;have e:mC.size=4:=rfl;unfold cH Oz;split
 ·rw[oY];simp only[aV,cF,bR,iz,oo];omega
 ·split
  ·rw[oY];simp only[aV,cF,bR,iz,oo,Og];omega
  ·split
   ·rw[oY];simp only[aV,cF,bR,iz,oo];omega
   ·rw[oY];simp only[aV,cF,bR,iz,oo];omega
theorem Mr(n:Nat)(c:Cl (n+1))(b:uf (n+1) c=true):wt (n+4) (dZ n c)<=OA (n+1) c+68:=by
 have h:My.size=2:=rfl;have i:c.2.2.length<=8:=by
  simp only[uf,aK,cw]at b;omega
 have d:=sA (λa=>wt (n+2) (cH n a)) (Oz (n+1)) 8 c.2.2 λa _=>Mp n a;have e:=uR (n+3) (n+1) (by omega) c.1.1;have f:=uR (n+3) (n+1) (by omega) c.1.2.1;have g:=uR (n+3) (n+1) (by omega) c.1.2.2;unfold dZ OA;rw[oY];simp only[aV,cF,bR,iz,oo,oY,gW,e,f,g];have j:(c.2.2.map (wt (n+2) ∘ cH n)).sum<=(c.2.2.map (Oz (n+1))).sum+c.2.2.length*8:=d;omega
theorem Mq(n:Nat)(b:Bh (n+1))(c:xo (n+1) b=true):wt (n+5) (eu n b)<=Mz (n+1) b+413:=by
 have e:uz.size=3:=rfl;simp only[xo,aK,cw,cJ]at c;have g:(b.2.2.map (wt (n+4) ∘ dZ n)).sum<=(b.2.2.map (OA (n+1))).sum+b.2.2.length*68:=sA (λa=>wt (n+4) (dZ n a)) (OA (n+1)) 68 b.2.2 λa d=>Mr n a (c.2 a d);have f:b.2.2.length<=6:=by omega
 unfold eu Mz;rw[oY];simp only[aV,bR,oo,gW];omega
theorem Ms(n:Nat)(p:List (Bh (n+1)))(b:kT (n+1) p=true):wt (n+6) (cm n p)<=(p.map (Mz (n+1))).sum+2897:=by
 have d:ov.size=4:=rfl;simp only[kT,aK,cw,cJ]at b;have f:(p.map (wt (n+5) ∘ eu n)).sum<=(p.map (Mz (n+1))).sum+p.length*413:=sA (λa=>wt (n+5) (eu n a)) (Mz (n+1)) 413 p λa c=>Mq n a (b.2 a c);have e:p.length<=7:=by omega
 unfold cm;rw[oY];simp only[aV,bR,oo,gW];omega
theorem Cf(n:Nat)(p:List (Bh (n+1)))(a:kT (n+1) p=true)(d:(p.map (Mz (n+1))).sum<=1048576):(aC (n+6) (cm n p)).length<=2097152:=by
 have b:=rZ (n+6) (cm n p);have c:=Ms n p a;omega
end Go.Proofs.YtmmahddlcldmiaaGreat
