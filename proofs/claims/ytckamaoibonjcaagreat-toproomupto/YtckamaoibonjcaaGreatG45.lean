/- What is proved here: plain facts and contracts that the claimed theorem stands on. No condition but those that each names. -/
import Derived.Test.YtckamaoibonjcaaGreatG44
import Derived.Shelf.SortM.Plain
import Derived.Shelf.SortM.SortNone
import Derived.Test.YtckamaoibonjcaaGreatG43
namespace Go.Proofs.YtckamaoibonjcaaGreat
open Go.RowKit Go.Maps Go.Sort Go.Shelf
open Go.RowKit
set_option maxRecDepth 100000
set_option maxHeartbeats 1000000
theorem KG{k:Type}{f:k->Value}{w:World}{j:Nat}{l:List (Int×k)}(n:vb f w j l)(r:∀p∈l,(Lit.int .i64 p.1).wf=true)(z:l.length<=maxLen):∃D:DataW Value,w.ownsMap Tryz.prog 3 qH j l.length D/\(intKeys D).Perm (l.map (·.1))/\Maps.size D=l.length:=by
 obtain⟨es,m,o,e,q⟩:=n;have i:∀a∈es.toList,∃b,a.key=.int .i64 b/\WideElems.rd Tryz.prog 3 qH a=some (.int .i64 b,.held a.val):=λa d=>by
  have u:(a.key,a.val)∈l.map λp=>(Value.int .i64 p.1,f p.2):=e▸bZ.2 ⟨a,d,rfl⟩;obtain⟨p,s,c⟩:=bZ.1 u;have g:a.key=.int .i64 p.1:=(congrArg Prod.fst c).symm;refine⟨p.1,g,?_⟩;unfold WideElems.rd;rw[g,keyOf_int_mk Tryz.underlying3 (r p s)];rfl
 have t:es.size=l.length:=by
  have:=congrArg List.length e;simpa using this
 refine⟨_,⟨es,m,o,⟨by omega,q,λa d=>?_⟩,by omega,rfl⟩,?_,?_⟩
 ·obtain⟨b,_,c⟩:=i a d;exact⟨_,c⟩
 ·have c:es.toList.map (λa=>Go.intOf (WideElems.rg Tryz.prog 3 qH a).1)=l.map (·.1):=by
    have h:=congrArg (List.map λy:Value×Value=>match y.1 with| .int _ b=>b|_=>0) e;rw[fV,fV]at h;refine(iG λa d=>?_).trans (h.trans (iG λp _=>rfl));obtain⟨b,v,x⟩:=i a d;rw[WideElems.rg_of x];simp only[Function.comp,v,Go.intOf]
  rw[<-c];have:=(WideShapes.sorted_perm (es.toList.map (WideElems.rg Tryz.prog 3 qH))).map λp=>Go.intOf p.1;rw[fV]at this;exact this
 ·rw[<-t];simpa [Maps.size]using (WideShapes.sorted_perm (es.toList.map (WideElems.rg Tryz.prog 3 (qH)))).length_eq
theorem ML(m:Nat):AnyZI.SortsIn Tryz.prog Tryz.sortedA_ren Fence.wide m:=
 ⟨λb off cap g a c d e=>callsIn_wide.2 (AnyM.slices_Sort_int Tryz.sortA b off cap g a c d e),λf cap a=>callsIn_wide.2 (AnyM.slices_Sort_int_none Tryz.sortA f cap a)⟩
theorem tu(g:Nat)(f:Option Nat)(w:World)(S:List Int->Prop)(N:Nat)(m:w.cell? ⟨g,3,none⟩=some (.map f))(o:N<=1000)(l:SeqGives Fence.wide 2 Tryz.prog 57 #[.pointer (some ⟨w.heap.size,0,none⟩)] encZ S N (w.alloc (.cells #[.map f] 62))):ah 12 #[.pointer (some ⟨g,0,none⟩)] w λe w'=>∃v c,e=.returned v/\S c/\g9 w.heap.size v (c.mergeSort leI) w'/\ag w w':=by
 refine(callsIn_wide (n:=6)).1 ?_;have h:∀b a,CallsIn Fence.wide 5 Tryz.prog 32 #[.map b] a λe w'=>e=.returned (.func (.func 57) #[] #[.pointer (some ⟨a.heap.size,0,none⟩)])/\w'=a.alloc (.cells #[.map b] 62):=λb a=>AnyZI.keys_in Tryz.keysA Fence.wide 5 trivial rfl b a;have d:=AnyZI.sorted_in Tryz.sortedA Fence.wide 5 trivial trivial trivial trivial rfl (by omega) (ML _) (enters_of Tryz.func56 (by kernel_rfl) rfl) 57 #[.pointer (some ⟨w.heap.size,0,none⟩)] trivial (enters_of Tryz.func57 (by kernel_rfl) rfl) _ _ (by unfold maxLen;omega) (by omega) _ l;change CallsIn _ _ Tryz.prog 31 _ _ _ at d;have p:Fence.wide.fn 32:=trivial;have q:Fence.wide.fn 31:=trivial;refine callsIn_of_wp Tryz.func12 rfl trivial ?_ rfl;simp only[Tryz.ntmps12,eR,aV,iF,Nat.reduceAdd,Nat.reduceSub,Array.replicate_succ,Array.replicate_zero,List.push_toArray,List.append_toArray,l9,fz]
 gi_wp2_with (first
  | (gi_at_call 32;refine(h _ _).mono ?_;rintro e w' ⟨rfl,rfl⟩)
  | (gi_at_call 31;refine d.mono ?_;rintro e w' ⟨v,c,rfl,i,k,r,j⟩))
 go_ret
 refine⟨v,c,rfl,i,?_,((ak _ w).alloc (ai _) _).trans (j.mono (by simp))⟩;have:=ownsRow_base_a k (by simp:w.heap.size<=_);unfold g9;rw[List.length_mergeSort];exact this
section
variable {p:lh} {s:Sy} {d:gf} {w:World}
theorem aX.aliveL(i:aX p s d w):ah 12 #[.pointer (some ⟨p.b,0,none⟩)] w λe w'=>∃v q,e=.returned v/\q.Perm (s.ps.map (·.1))/\q=(s.ps.map (·.1)).mergeSort leI/\g9 w.heap.size v q w'/\ag w w':=by
 obtain⟨c,C,u,D,E,F⟩:=i.keys;have G:d.l.length=s.ps.length:=by
  have:=congrArg List.length c;simpa using this
 have g:=i.cells.2.2.2;have o:ag w (w.alloc (.cells #[.map d.po] 62)):=(ak _ w).alloc (ai _) _;rcases i.pm with⟨n,h⟩|⟨k,n,_,_,h⟩
 ·rw[n]at g o;refine(tu p.b none w (λa=>a=[]) 0 g (by omega) (AnyZI.keys_gives_nil (ρ:=Tryz.keysA_ren) {Tryz.keysA with} Fence.wide _ trivial rfl w.heap.size _ (by simp) (by simp))).mono ?_;rintro e w' ⟨v,a,rfl,rfl,f,j⟩;exact⟨v,[],rfl,by rw[<-c,h];exact List.Perm.refl _,by rw[<-c,h];simp,by simpa using f,j⟩
 ·rw[n]at g o;have j:=i.low k (by omega)
  obtain⟨m,z,A,H⟩:=KG (h.kept (o.block k (by omega))) (λt y=>by
   have:t.1∈s.ps.map (·.1):=c▸bZ.2 ⟨t,y,rfl⟩;obtain⟨B,f,e⟩:=bZ.1 this;have:=u B f;simp[Lit.wf,IntKind.min,IntKind.max,IntKind.signed,IntKind.bits]
   omega) (by unfold maxLen;omega)
  refine(tu p.b (some k) w (λa=>a.Perm (intKeys m)) (Maps.size m) g (by omega) (AnyZI.keys_gives (ρ:=Tryz.keysA_ren) {Tryz.keysA with} Fence.wide _ trivial rfl (by omega) w.heap.size k _ m _ (by simp) (by simp) z)).mono ?_;rintro e w' ⟨v,a,rfl,x,f,j⟩;have r:=x.trans (A.trans (List.Perm.of_eq c));exact⟨v,_,rfl,(List.mergeSort_perm a leI).trans r,mergeSort_of_perm_i r,f,j⟩
end
theorem uR{s:ByteArray}{t:Tc}(k:nK s 13 t)(n:bm 13 t=0)(W:World):ah 21 #[.int .i64 1,.string s] W λe w'=>∃y0 y1 y2 ya yl yc,e=.returned (.agg #[.int .i64 3,.int .i64 1,.int .i64 0,.int .i64 y0,.int .i64 y1,.string y2,.slice ya yl yc])/\Hid (nd t W.heap.size y0 y1 y2 ya yl yc w'/\ag W w'):=by
 refine Gp 1 s W (λy0 y1 y2 ya yl yc d=>nd t W.heap.size y0 y1 y2 ya yl yc d) λj w x=>(AJ k n j).mono ?_;rintro e w' ⟨b,a,rfl,i⟩;obtain⟨l,f,m,g⟩:=i.out;have y:=g.size;refine⟨_,_,_,_,_,_,rfl,g,λd o=>?_⟩;have p:nd t (W.heap.size+1) a.1.1 a.1.2.1 a.1.2.2 a.2.1.1 a.2.2.length a.2.1.2 w':=⟨b,a,⟨rfl,rfl,rfl⟩,l,f,(In.offB m f).mono λh c=>⟨by omega,c.2⟩⟩;obtain⟨b,a,q,r,u,v⟩:=p.kee o λh z A B=>by omega
 exact⟨b,a,q,r,u,v.mono λh c=>⟨by omega,c.2⟩⟩
theorem BE.grow{w0:World}{V V':Nat->Prop}{j:World}{s:Sy}{i g:Nat}{W b:World}(l:BE w0 V j s i g W)(d:ag W b)(r:∀q,V' q->V q\/(W.heap.size<=q/\q<b.heap.size)):BE w0 V' b s i g b:=by
 obtain⟨t,e,k,f,m,n,c,o,p⟩:=l;have u:=p.size;have v:=d.size;refine⟨t,e,k,f.later d,m,n,⟨c.1.trans (d.mono c.1.size),c.2⟩,λq a=>?_,bi.refl _ _⟩;rcases r q a with a|a
 ·have:=o q a;exact⟨by omega,this.2⟩
 ·refine⟨a.2,?_⟩;by_cases h:e.ow q=0
  ·exact h
  ·have:=(f.low q h).2;omega
theorem Dm(w0:World){a:Nat}{W:World}(l:tm w0 JV 0 a W):ah 19 #[.pointer (some ⟨a,0,none⟩),.string pS,.agg #[.int .i64 1,.int .i64 2,.string ⟨#[]⟩,.slice none 0 0]] W λe w'=>e=.returned (.tuple #[.int .i64 1,.int .i64 0])/\Hid (tm w0 EN 1 a w'):=by
 obtain⟨p,u,rfl,b,⟨c,d⟩,v,m,f⟩:=l;have o:In W.heap.size W 1 (Ko 2 0):=Ak 1 2 0 (by unfold dh;omega) (by unfold dh;omega) _ _;refine(b.start pS (by decide) (Ko 2 0) o (by decide) (by omega) (by omega)).mono ?_;rintro e w' ⟨s,q,rfl,j⟩;obtain⟨⟨g,n⟩,k,h,i⟩:=j.out;rw[c,C9 d]at g h;have r:q=0:=g.trans EO.1;subst r;have t:s=1:=n rfl;subst t;exact⟨rfl,p,k,rfl,h,⟨c,d⟩,by obtain⟨_,_,w,x,y,z⟩:=i;omega,m.trans (qO b i f),f⟩
theorem K8{g:Nat}{W:World}(b:W.heap[g]?=some (.cells #[.int .i64 1,.int .i64 2] 3)):sC (.slice (some ⟨g,0,none⟩) 2 2) [1,2] W:=by
 refine⟨_,_,rfl,af ⟨g,0,rfl,(aA.1 b).1,λi k a=>?_⟩⟩
 match i,a with
 | 0,a=>
  obtain rfl:1=k:=by simpa using a
  exact ab b 0
 | 1,a=>
  obtain rfl:2=k:=by simpa using a
  exact ab b 1
 | i+2,a=>simp at a
def sI:Tm 1:=((0,0,⟨#[]⟩),(none,0),[])
theorem IG(B:Nat)(w:World):In B w 1 sI:=⟨⟨by simp[sI,dh],by simp[sI,dh],aB _,by simp[sI],by simp[sI]⟩,ae rfl⟩
theorem iO{a b:Int}(c:0<=a/\a<=9/\0<=b/\b<=9):I2 (a,b):=by
 unfold I2 dh;simp only;omega
def Ob(m a:Nat):Nat->Nat
 | 0=>m
 | 1=>0
 | 2=>a
 | _+3=>0
def xF{m a:Nat}(x:Tm (m+1))(x':Tm (a+1)):(j:Nat)->Tm (Ob m a j+1)
 | 0=>x
 | 1=>sI
 | 2=>x'
 | _+3=>sI
theorem nd.parts{t:Tc}{B:Nat}{y0 y1:Int}{y2:ByteArray}{ya:Option Addr}{yl yc:Nat}{W:World}(e:nd t B y0 y1 y2 ya yl yc W)(h:bm 13 t=0):∃(m:Nat)(l:List (Tm m)),l.length=yl/\au (m+1) ((y0,y1,y2),(ya,yc),l) 13 t=true/\In W.heap.size W (m+1) ((y0,y1,y2),(ya,yc),l)/\bV (λq=>B<=q/\q<W.heap.size) (m+1) ((y0,y1,y2),(ya,yc),l)/\(ar (m+1) ((y0,y1,y2),(ya,yc),l)).length<=2097152:=by
 obtain⟨m,i,⟨a,b,d⟩,c,f,g⟩:=e;obtain⟨⟨k,n,o⟩,⟨p,r⟩,j⟩:=i;simp only[fC]at a b;obtain⟨rfl,rfl,rfl⟩:=a;obtain⟨rfl,rfl⟩:=b;exact⟨m,j,d,c,f,g,eH ((bH c).trans h)⟩
theorem Di(w0:World){t r g m B2:Nat}{n d f h:World}{y0 y1:Int}{y2:ByteArray}{ya:Option Addr}{yl yc:Nat}{u v:Int}{w:ByteArray}{x:Option Addr}{B y:Nat}(D:tm w0 EN 1 t n)(F:ag n d/\n.heap.size=r/\GJ r d)(aj:r<m/\r<B2)(M:nd uq m y0 y1 y2 ya yl yc d)(p:ag d f)(N:nd (aU sy 12) B2 u v w x B y f)(j:ag f h)(J:f.heap.size<=g/\h.heap[g]?=some (.cells #[.int .i64 3,.int .i64 1,.int .i64 0,.int .i64 y0,.int .i64 y1,.string y2,.slice ya yl yc,.int .i64 1,.int .i64 1,.int .i64 0,.int .i64 0,.int .i64 0,.string ⟨#[]⟩,.slice none 0 0,.int .i64 3,.int .i64 1,.int .i64 0,.int .i64 u,.int .i64 v,.string w,.slice x B y,.int .i64 1,.int .i64 1,.int .i64 0,.int .i64 0,.int .i64 0,.string ⟨#[]⟩,.slice none 0 0,.int .i64 2,.int .i64 1,.int .i64 2,.int .i64 0,.int .i64 0,.string ⟨#[]⟩,.slice none 0 0,.int .i64 1,.int .i64 2,.int .i64 0,.int .i64 0,.int .i64 0,.string ⟨#[]⟩,.slice none 0 0] 32)):ah 20 #[.pointer (some ⟨t,0,none⟩),.slice (some ⟨g,0,none⟩) 6 6] h λe w'=>e=.returned (.bool true)/\Hid (BE w0 (λq=>q=r) w' (xC EN JU) 7 t w'/\GJ r w'):=by
 obtain⟨o,ad,z⟩:=F;obtain⟨O,Z,rfl,Q,R,S,T⟩:=M.parts nG.2.1;obtain⟨P,aa,rfl,U,W,X,Y⟩:=N.parts nG.2.2.1;obtain⟨ai,a⟩:=J;have al:=(aA.1 a).1;have L:=(aA.1 z).1;have am:=o.size;have an:=p.size;have ao:=j.size;have i:=p.trans (j.mono p.size);have E:=o.trans (i.mono o.size);have K:=(i.block r L).trans z;have I:=D.from E (V:=λq=>q=r\/q=g\/(m<=q/\q<d.heap.size)\/(B2<=q/\q<f.heap.size)) λq c=>by rcases c with c|c|c|c<;>omega
 have k:∀{V:Nat->Prop},In h.heap.size h 1 sI/\bV V 1 sI:=λ{V}=>⟨IG _ _,ae rfl⟩;have l:(ar 1 sI).length<=2097152:=by decide
 refine(Bk I JU Hl (by decide) g 6 (af (ae rfl)) (Ob O P) (xF ((y0,y1,y2),(ya,yc),Z) ((u,v,w),(x,y),aa)) (λs e b=>?_) (λs e b=>?_)).mono ?_
 ·match s,b with
  | 0,b=>
   obtain rfl:(3,1,0,uq)=e:=aq b;exact⟨⟨(R.below i).mono i.size,S.mono λq c=>af (af (ae c))⟩,T,ae Q,iO (by decide)⟩
  | 1,b=>
   obtain rfl:(1,1,0,ve)=e:=aq b;exact⟨k,l,af (by decide),iO (by decide)⟩
  | 2,b=>
   obtain rfl:(3,1,0,aU sy 12)=e:=aq b;exact⟨⟨(W.below j).mono j.size,X.mono λq c=>af (af (af c))⟩,Y,ae U,iO (by decide)⟩
  | 3,b=>
   obtain rfl:(1,1,0,ve)=e:=aq b;exact⟨k,l,af (by decide),iO (by decide)⟩
  | 4,b=>
   obtain rfl:(2,1,2,ve)=e:=aq b;exact⟨k,l,af (by decide),iO (by decide)⟩
  | 5,b=>
   obtain rfl:(1,2,0,ve)=e:=aq b;exact⟨k,l,af (by decide),iO (by decide)⟩
  | _+6,b=>cases b
 ·match s,b with
  | 0,b=>
   obtain rfl:(3,1,0,uq)=e:=aq b;exact⟨ab a 0,ab a 1,ab a 2,ab a 3,ab a 4,ab a 5,ab a 6⟩
  | 1,b=>
   obtain rfl:(1,1,0,ve)=e:=aq b;exact⟨ab a 7,ab a 8,ab a 9,ab a 10,ab a 11,ab a 12,ab a 13⟩
  | 2,b=>
   obtain rfl:(3,1,0,aU sy 12)=e:=aq b;exact⟨ab a 14,ab a 15,ab a 16,ab a 17,ab a 18,ab a 19,ab a 20⟩
  | 3,b=>
   obtain rfl:(1,1,0,ve)=e:=aq b;exact⟨ab a 21,ab a 22,ab a 23,ab a 24,ab a 25,ab a 26,ab a 27⟩
  | 4,b=>
   obtain rfl:(2,1,2,ve)=e:=aq b;exact⟨ab a 28,ab a 29,ab a 30,ab a 31,ab a 32,ab a 33,ab a 34⟩
  | 5,b=>
   obtain rfl:(1,2,0,ve)=e:=aq b;exact⟨ab a 35,ab a 36,ab a 37,ab a 38,ab a 39,ab a 40,ab a 41⟩
  | _+6,b=>cases b
 ·rintro e w' ⟨rfl,C⟩;have A:=C.out;refine⟨rfl,A.grow (ak _ _) λq c=>ae (ae c),?_⟩;obtain⟨_,_,_,_,_,_,_,G,H⟩:=A;exact(H.block r (G r (ae rfl)).1 λc=>c (ae rfl)).trans K
def xb(w0:World)(a r:Nat)(W:World):Prop:=BE w0 (λq=>q=r) W (xC EN JU) 7 a W
theorem Gs(w0:World){m r q g B:Nat}{i f j:World}{y0 y1:Int}{y2:ByteArray}{ya:Option Addr}{yl yc:Nat}(w:xb w0 m r i)(y:ag i f/\i.heap.size<=q/\f.cell? ⟨q,1,none⟩=some (.int .i64 7))(N:i.heap.size<=B)(E:nd (aU Br 12) B y0 y1 y2 ya yl yc f)(u:GJ r f)(h:ag f j)(A:f.heap.size<=g/\j.heap[g]?=some (.cells #[.int .i64 3,.int .i64 1,.int .i64 0,.int .i64 y0,.int .i64 y1,.string y2,.slice ya yl yc,.int .i64 1,.int .i64 1,.int .i64 0,.int .i64 0,.int .i64 0,.string ⟨#[]⟩,.slice none 0 0] 32)):ah 20 #[.pointer (some ⟨m,0,none⟩),.slice (some ⟨g,0,none⟩) 2 2] j λe w'=>e=.returned (.bool true)/\Hid (tm w0 (xC (xC EN JU) Np) 9 m w'/\GJ r w'/\w'.cell? ⟨q,1,none⟩=some (.int .i64 7)):=by
 obtain⟨k,L,n⟩:=y;obtain⟨F,K,rfl,G,H,I,J⟩:=E.parts nG.2.2.2;obtain⟨M,a⟩:=A;have O:=(aA.1 a).1;have C:q<f.heap.size:=jj f ⟨q,1,none⟩ n;have D:=(aA.1 u).1;have P:=k.size;have Q:=h.size;have x:=k.trans (h.mono k.size);have z:=w.grow x (V':=λb=>b=r\/b=q\/b=g\/(B<=b/\b<f.heap.size)) λb d=>by
  rcases d with d|d|d|d
  ·exact ae d
  all_goals exact af (by omega)
 refine(Bk z Np Kq (by decide) g 2 (af (af (ae rfl))) (Ob F 0) (xF ((y0,y1,y2),(ya,yc),K) sI) (λl e c=>?_) (λl e c=>?_)).mono ?_
 ·match l,c with
  | 0,c=>
   obtain rfl:(3,1,0,aU Br 12)=e:=aq c;exact⟨⟨(H.below h).mono h.size,I.mono λb d=>af (af (af d))⟩,J,ae G,iO (by decide)⟩
  | 1,c=>
   obtain rfl:(1,1,0,ve)=e:=aq c;exact⟨⟨IG _ _,ae rfl⟩,show (ar 1 sI).length<=2097152 by decide,af (by decide),iO (by decide)⟩
  | _+2,c=>cases c
 ·match l,c with
  | 0,c=>
   obtain rfl:(3,1,0,aU Br 12)=e:=aq c;exact⟨ab a 0,ab a 1,ab a 2,ab a 3,ab a 4,ab a 5,ab a 6⟩
  | 1,c=>
   obtain rfl:(1,1,0,ve)=e:=aq c;exact⟨ab a 7,ab a 8,ab a 9,ab a 10,ab a 11,ab a 12,ab a 13⟩
  | _+2,c=>cases c
 ·rintro e w' ⟨rfl,v⟩;have t:=v.out;refine⟨rfl,t.at,?_⟩;obtain⟨_,_,_,_,_,_,_,o,s⟩:=t;refine⟨(s.block r (o r (ae rfl)).1 λd=>d (ae rfl)).trans ((h.block r D).trans u),?_⟩;rw[s.cell 1 (o q (af (ae rfl))).1 λd=>d (af (ae rfl))];exact(h.cell (p:=⟨q,1,none⟩) C).trans n
theorem Gm(w0:World){c r:Nat}{W:World}(g:xb w0 c r W):ah 7 #[.pointer (some ⟨c,0,none⟩),.int .i64 2] W λe w'=>∃nm m sa sl sc ma l b,e=.returned (.tuple #[.string nm,.agg #[.int .i64 1,.int .i64 7,.string m,.slice sa sl sc],.slice ma l b,.int .i64 0])/\ag W w':=by
 obtain⟨t,p,rfl,h,_,q,_⟩:=g.at;obtain⟨⟨nm,o,n⟩,k,a⟩:=b8.1 Hm;simp only[fC]at a;obtain⟨rfl,a⟩:=a;refine(h.procS k (by decide) (by omega)).mono ?_;rintro e w' ⟨y0,y1,y2,ya,yl,yc,ma,b,rfl,d⟩;obtain⟨⟨⟨s,u,⟨f,_,_⟩,j,_⟩,_⟩,i⟩:=d.out;have:=(bz j).1;rw[f,a]at this;simp only[fC]at this;obtain⟨rfl,rfl,rfl⟩:=this;exact⟨_,_,ya,yl,yc,ma,_,b,rfl,i⟩
theorem I9(w:World):ah 5 #[] w λe w'=>e=.returned (.bool true)/\ag w w':=by
 refine F6 w (xd w) (λd a=>tm w JV 0 d a) (λd a=>tm w EN 1 d a) (xb w) (λd a=>tm w (xC (xC EN JU) Np) 9 d a) (λf c a=>sC (.slice f 2 c) [1,2] a) (nd uq) (nd (aU sy 12)) (nd (aU Br 12)) (Gj w) (λf l c a b=>Js w b) (λd a b=>Dm w b) (λa=>uR NB nG.2.1 a) (λa=>uR Lp nG.2.2.1 a) (λa=>uR MR nG.2.2.2 a) (λd r s H I y z A J y0 y1 y2 ya yl yc L M N O Q P b g m p k D C i=>Di w b g m p k D C i) (λd r a b=>Gm w b) (λd r a x b n=>?_) (λf c s a x b n i=>Ci (b.later n) (K8 i) (by decide)) (λd r K s G y z A y0 y1 y2 ya yl yc b g m p j k i=>Gs w b g m p j k i) λd a b=>?_
 ·obtain⟨E,B,rfl,g,_⟩:=b.at;refine((g.later n).aliveL).mono ?_;rintro e w' ⟨F,q,rfl,_,h,j,o⟩;rw[Mq]at h;have h:q=[1,2]:=by
   rw[h];exact List.mergeSort_of_pairwise (by simp[leI])
  subst h;obtain⟨f,c,rfl,v⟩:=j.row;exact⟨f,c,rfl,⟨f,c,rfl,v⟩,o⟩
 ·obtain⟨E,B,rfl,g,_,_,t,_⟩:=b;refine g.aliveL.mono ?_;rintro e w' ⟨F,q,rfl,u,_,j,o⟩;rw[Kp]at u;have h:q=[]:=List.Perm.eq_nil u;subst h;obtain⟨f,c,rfl,v⟩:=j.row;exact⟨f,c,rfl,t.trans (o.mono t.size)⟩
theorem CV(nm:ByteArray)(d v f g:Int)(h:ByteArray)(xa:Option Addr)(i xc:Nat)(w:World)(c:¬(nm=np/\v=3)):ah 11 #[.agg #[.string nm,.int .i64 d,.int .i64 v,.int .i64 f,.int .i64 g,.string h,.slice xa i xc]] w λe w'=>e=.returned (.bool false)/\ag w w':=by
 go_enter Tryz.func11,Tryz.ntmps11;by_cases b:nm=np
 ·subst b;have k:(v==3)=false:=by simpa using λa=>c ⟨rfl,a⟩
  unfold np;go_wp2_with fail
  go_ret
  exact⟨rfl,(ak _ _).alloc (ai _) _⟩
 ·have j:(nm.toList==[101,110,100])=false:=by
    rw[f9,bW];exact λa=>b (ByteArray.ext (lW.1 a))
  go_wp2_with fail
  go_ret
  exact⟨rfl,(ak _ _).alloc (ai _) _⟩
theorem I4(n:Nat)(l:List (Bh (n+1)))(N:Option Addr)(E:Nat)(F:Nat)(A:List (Sk F))(sa:Option Addr)(sc:Nat)(O:Nat)(xs:List (Hn O))(xa:Option Addr)(xc:Nat)(w:World)(ax:gF (n+1) w.heap.size w N l)(ay:l.length<=E)(aA:E<=maxLen)(ao:jP (n+1) l=true->(ar (n+6) (bR n l)).length<=2097152)(aB:pe w.heap.size w 5 (Nv F) (GR F w.heap.size w) sa A)(aE:∀c∈A,(ar (F+1) c.2).length<=2097152)(aG:pe w.heap.size w 7 (NI O) (GN O w.heap.size w) xa xs)(aH:∀c∈xs,(ar (O+1) c.2).length<=2097152)(al:A.length<=1048576)(am:xs.length<=1048576):ah 3 #[.slice N l.length E,.slice sa A.length sc,.slice xa xs.length xc] w λe w'=>e=.returned (.bool true)/\ag w w':=by
 obtain⟨d,ab⟩:=Ic xs ((0,0,0),((0,0,⟨#[]⟩),(none,0),[]));have u:∀{h:World}{q o:Nat}{g:Value},ag w h->q<w.heap.size->w.cell? ⟨q,o,none⟩=some g->h.cell? ⟨q,o,none⟩=some g:=λ{h q o g} i f C=>(i.cell (p:=⟨q,o,none⟩) f).trans C
 refine FZ N l.length E sa A.length sc xa xs.length xc (λa=>(d a).1.1) (λa=>(d a).1.2.1) (λa=>(d a).1.2.2) (λa=>(d a).2.1.1) (λa=>(d a).2.1.2.1) (λa=>(d a).2.1.2.2) (λa=>(d a).2.2.1.1) (λa=>(d a).2.2.2.length) (λa=>(d a).2.2.1.2) w
  (λP a h=>yX dB w 1000 (4+a) P h) am (I9 w) (λh G=>Df dB dB.zero (λaf k aM C=>C.start af k aM) n l N E 1000 F A sa sc w h ax ay aA ao aB aE al G) (λP a h C=>C.below) (λP a h V aI T=>?_) λP h aI T=>?_
 ·obtain⟨p,z,R,rfl,v,⟨L,M⟩,J,ae,i,W⟩:=T;obtain⟨q,o,S,f,s,an⟩:=Ik aG (ab a V);refine⟨q,o,⟨S,u i f (s 0 _ rfl),u i f (s 1 _ rfl),u i f (s 2 _ rfl),u i f (s 3 _ rfl),u i f (s 4 _ rfl),u i f (s 5 _ rfl),u i f (s 6 _ rfl)⟩,λY y=>?_⟩;have U:∀h,ag Y h->((d a).1.1=2->∀g,z.get (d a).1.2.2=some g->g.2.2.length<3)->((d a).1.1=3->∀g,z.get (d a).1.2.1=some g->g.2.2.length<3)->NZ p.b (d a).1.1 (d a).1.2.1 (d a).1.2.2 (d a).2.1.1 (d a).2.1.2.1 (d a).2.1.2.2 (d a).2.2.1.1 (d a).2.2.2.length (d a).2.2.1.2 (yX dB w 1000 (4+(a+1)) p.b) h:=λh G X x=>by
   have D:=y.trans (G.mono y.size);refine(Ny (v.later D) L ae (by omega) (i.trans (D.mono i.size)) W (d a) an (aH _ (aC (ab a V))) dB ?_).mono ?_
   ·rw[J];exact M.do v.sound _ _ _ _ _ X x
   ·rintro e w' ⟨g,rfl,B⟩;have:=B.out.1;rw[J]at this;exact⟨g,rfl,this⟩
  refine⟨λX x=>U Y (ak _ _) (λj=>absurd j X) λj=>absurd j x,λaJ K=>?_⟩;cases f:z.get aJ with
  | none=>
   refine((v.later y).procN f).mono ?_;rintro e w' ⟨rfl,r⟩;refine⟨_,_,_,_,_,_,_,_,_,_,_,rfl,r,λQ H=>⟨λj=>absurd j (by decide),λ_=>?_⟩⟩;refine U Q (r.trans (H.mono r.size)) (λj g m=>?_) λj g m=>?_
   ·rcases K with⟨_,rfl⟩|⟨x,_⟩
    ·rw[f]at m;cases m
    ·omega
   ·rcases K with⟨x,_⟩|⟨_,rfl⟩
    ·omega
    ·rw[f]at m;cases m
  | some g=>
   obtain⟨af,aO,aa⟩:=g;refine((v.later y).procS f (aw (L.get f) (by decide)) (by omega)).mono ?_;rintro e w' ⟨y0,y1,y2,ya,yl,yc,aP,aQ,rfl,B⟩;obtain⟨_,r⟩:=B.out;refine⟨_,_,_,_,_,_,_,_,_,_,_,rfl,r,λQ H=>⟨λ_ _=>?_,λj=>?_⟩⟩
   ·have D:=y.trans ((r.trans (H.mono r.size)).mono y.size);exact⟨p,z,R,rfl,v.later D,⟨L,M⟩,J,by omega,i.trans (D.mono i.size),W⟩
   ·have ad:aa.length<3:=by
      have:¬3<=aa.length:=λaN=>j ⟨rfl,aN⟩;omega
    refine U Q (r.trans (H.mono r.size)) (λj g m=>?_) λj g m=>?_
    ·rcases K with⟨_,rfl⟩|⟨x,_⟩
     ·rw[f]at m;obtain rfl:=aq m;exact ad
     ·omega
    ·rcases K with⟨x,_⟩|⟨_,rfl⟩
     ·omega
     ·rw[f]at m;obtain rfl:=aq m;exact ad
 ·obtain⟨p,z,R,rfl,v,⟨L,M⟩,J,ae,i,W⟩:=T;have av:R.es.length<=100000:=by omega
  refine(v.events av).mono ?_;rintro e w' ⟨Z,c,rfl,B⟩;obtain⟨ai,aR,aj,aS,aK,aL⟩:=B.out;refine⟨Z,_,c,rfl,(vg Z _ c (λ_=>false) w' (by omega) λa V=>?_).mono ?_⟩
  ·obtain⟨ev,I⟩:∃ev,aj[a]?=some ev:=⟨_,aD (by omega)⟩;rcases aL.1 with j|⟨q,S,_,f,s⟩
   ·rw[j]at I;simp at I
   have k:=s a ev I;refine⟨q,0,ev.1,ev.2.1,ev.2.2.1,ev.2.2.2.1.1,ev.2.2.2.1.2.1,ev.2.2.2.1.2.2,ev.2.2.2.2.1.1,ev.2.2.2.2.2.length,ev.2.2.2.2.1.2,⟨S,f,?_,?_,?_,?_,?_,?_,?_⟩,λh G=>CV _ _ _ _ _ _ _ _ _ h ?_⟩
   ·simpa using k 0 _ rfl
   ·simpa using k 1 _ rfl
   ·simpa using k 2 _ rfl
   ·simpa using k 3 _ rfl
   ·simpa using k 4 _ rfl
   ·simpa using k 5 _ rfl
   ·simpa using k 6 _ rfl
   ·have az:Ms ev∈z.evs:=by
      rw[<-aK];exact iH (aC I)
    exact M.2 (Ms ev) az
  ·rintro e aT ⟨t,rfl,aF,ap⟩;have:t=false:=by
    cases t
    ·rfl
    ·obtain⟨_,_,j⟩:=aF.1 rfl;cases j
   subst this;have au:=ai.trans (ap.mono ai.size);exact⟨rfl,i.trans (au.mono i.size)⟩
theorem ti:(N n:Nat)->n<=N->(x:Tm n)->wt N (aK N n x)=wt n x
 | 0,0,_,_=>rfl
 | N+1,0,_,_=>by simp[aK,wt]
 | N+1,n+1,h,x=>by
  simp only[aK,wt,fV];congr 2;refine iG λy _=>?_;exact ti N n (by omega) y
theorem JL:(n:Nat)->(x:Tm n)->1<=wt n x
 | 0,_=>by simp[wt]
 | n+1,x=>by simp only[wt];omega
theorem qL{a:Type}(f g:a->Nat)(c:Nat):(l:List a)->(∀y∈l,f y<=g y+c)->(l.map f).sum<=(l.map g).sum+l.length*c
 | [],_=>by simp
 | y::l,h=>by
  have e:=h y (by simp);have i:=qL f g c l λd b=>h d (by simp[b]);simp only[aH,bq,aV,Nat.add_mul,Nat.one_mul];omega
theorem mP(s:ByteArray)(N:Nat):wt (N+1) (aU s N)=1+s.size:=by simp[wt,aU]
theorem nI(N:Nat)(l:List (Tm N)):wt (N+1) (cR N l)=1+(l.map (wt N)).sum:=by simp[wt,cR]
theorem Ly(k a:Int)(N:Nat):wt (N+1) (bF k a N)=1:=by simp[wt,bF]
theorem JM(n:Nat)(a:Ac (n+1)):wt (n+2) (bU n a)<=LO (n+1) a+8:=by
 have f:=JL (n+1) a.2.1.1;have g:=JL (n+1) a.2.1.2;have b:lT.size=4:=rfl;have c:iz.size=5:=rfl;have d:lS.size=4:=rfl;have e:kU.size=4:=rfl;unfold bU LO;split
 ·rw[nI];simp only[aH,bS,bq,je,mP];omega
 ·split
  ·rw[nI];simp only[aH,bS,bq,je,mP,Ly];omega
  ·split
   ·rw[nI];simp only[aH,bS,bq,je,mP];omega
   ·rw[nI];simp only[aH,bS,bq,je,mP];omega
theorem JO(n:Nat)(c:Cl (n+1))(b:sE (n+1) c=true):wt (n+4) (dp n c)<=LP (n+1) c+68:=by
 have h:JW.size=2:=rfl;have i:c.2.2.length<=8:=by
  simp only[sE,ay,bT]at b;omega
 have d:=qL (λa=>wt (n+2) (bU n a)) (LO (n+1)) 8 c.2.2 λa _=>JM n a;have e:=ti (n+3) (n+1) (by omega) c.1.1;have f:=ti (n+3) (n+1) (by omega) c.1.2.1;have g:=ti (n+3) (n+1) (by omega) c.1.2.2;unfold dp LP;rw[nI];simp only[aH,bS,bq,je,mP,nI,fV,e,f,g];have j:(c.2.2.map (wt (n+2) ∘ bU n)).sum<=(c.2.2.map (LO (n+1))).sum+c.2.2.length*8:=d;omega
theorem JN(n:Nat)(b:Bh (n+1))(c:vd (n+1) b=true):wt (n+5) (dz n b)<=JX (n+1) b+413:=by
 have e:sT.size=3:=rfl;simp only[vd,ay,bT,bX]at c;have g:(b.2.2.map (wt (n+4) ∘ dp n)).sum<=(b.2.2.map (LP (n+1))).sum+b.2.2.length*68:=qL (λa=>wt (n+4) (dp n a)) (LP (n+1)) 68 b.2.2 λa d=>JO n a (c.2 a d);have f:b.2.2.length<=6:=by omega
 unfold dz JX;rw[nI];simp only[aH,bq,mP,fV];omega
theorem JP(n:Nat)(p:List (Bh (n+1)))(b:jP (n+1) p=true):wt (n+6) (bR n p)<=(p.map (JX (n+1))).sum+2897:=by
 have d:mU.size=4:=rfl;simp only[jP,ay,bT,bX]at b;have f:(p.map (wt (n+5) ∘ dz n)).sum<=(p.map (JX (n+1))).sum+p.length*413:=qL (λa=>wt (n+5) (dz n a)) (JX (n+1)) 413 p λa c=>JN n a (b.2 a c);have e:p.length<=7:=by omega
 unfold bR;rw[nI];simp only[aH,bq,mP,fV];omega
theorem Ay(n:Nat)(p:List (Bh (n+1)))(a:jP (n+1) p=true)(d:(p.map (JX (n+1))).sum<=1048576):(ar (n+6) (bR n p)).length<=2097152:=by
 have b:=qy (n+6) (bR n p);have c:=JP n p a;omega
end Go.Proofs.YtckamaoibonjcaaGreat
