/- Proved here: plain facts and contracts. No condition but what each names. -/
import Derived.Test.YtmmahddlcldmiaaGreatR04
namespace Go.Proofs.YtmmahddlcldmiaaGreat
open Go.RowKit Go.Proofs.Tryz
open Go.RowKit Go.Maps
set_option maxHeartbeats 4000000
set_option maxRecDepth 100000
theorem wh:(n:Nat)->(x:Tm n)->aJ ⟨n,x⟩->((aC n x).length:Int)<=sz n x+1
 | 0,_,_=>by simp[aC,sz]
 | n+1,x,h=>by
  have c:=e9 (bO n x) (h (bO n x) (by simp[aC,bO]));by_cases a:x.1.1=4
  ·have key:∀l:List (Tm n),(∀y∈l,aJ ⟨n,y⟩)->((l.flatMap λy=>aC n y).length:Int)<=(l.map λy=>1+sz n y).sum:=by
     intro l
     induction l with
     | nil=>intro _;simp
     | cons y l ih=>
      intro b;have g:=wh n y (b y (by simp));have i:=ih (λf e=>b f (by simp[e]));simp only[bP,bz,aV,bR];omega
   have k:=key x.2.2 (λy d=>bj n x y h d);simp only[aC,bA,sz,if_pos a];omega
  ·have:x.2.2=[]:=bL (c.2.2.2.2 a);simp[aC,this,sz,a]
theorem J4{n:Nat}{x:Tm n}(a:bJ n x=0):cr n x=true:=by
 rw[<-gR]at a;unfold xH at a;cases hf:cr n x
 ·simp[hf]at a
 ·rfl
def kh(n:Nat)(x:Tm n)(room:Int)(ws:List Wd):Int:=if bJ n x≠0 then bJ n x else if aT n x=false then 5 else if decide (sz n x<=room-ws.length)=false then 6 else 0
def JH(n:Nat)(x:Tm n)(base:Nat)(a:cN)(room:Int)(ws:List Wd)(nm:br)(M:aO)(w:ag)(e:Ending)(w':ag):Prop:=
 (kh n x room ws≠0->e=.returned (.tuple #[JE (0,0),ab (kh n x room ws)])/\am w w')/\
 (kh n x room ws=0->(bJ n x=0/\aT n x=true/\sz n x<=room-ws.length)/\e=.returned (.tuple #[JE (bk n x ws nm).1,ab 0])/\mN base a room (bk n x ws nm).2.1 (bk n x ws nm).2.2 M w w')
theorem vF(n:Nat)(x:Tm n)(base:Nat)(e:cN)(room:Int)(ws:List Wd)(nm:br)(M:aO)(w:ag)(A:eh base e room ws nm M w)(m:In w.heap.size w n x)(G:cD (λb=>¬M b) n x)(B:(aC n x).length<=2097152)(S:base<=w.heap.size)(I:0<=room)(H:room<=1000)(V:ws.length<=1000)(T:nm.length<=50000):ao 73 #[.pointer (some ⟨e.b,e.o,none⟩),dG n x] w (JH n x base e room ws nm M w):=by
 cases n with
 | zero=>exact m.elim
 | succ n=>
 have k:∀a,am w a->ao 53 #[dG (n+1) x] a λd g=>d=.returned (ab (bJ (n+1) x))/\am a g:=λa f=>eq (n+1) x w.heap.size a (m.below f) f.size B;have l:∀a,am w a->ao 54 #[dG (n+1) x] a λd g=>d=.returned (.bool (aT (n+1) x))/\am a g:=λa f=>jk (n+1) x w.heap.size a (m.below f) f.size;have z:∀a,am w a->ao 88 #[dG (n+1) x] a λd g=>d=.returned (ab (sz (n+1) x))/\am a g:=λa f=>yZ (n+1) x w.heap.size a (m.below f) f.size B;have q:∀a,am w a->ao 111 #[.pointer (some ⟨e.b,e.o,none⟩),ab (sz (n+1) x)] a λd g=>d=.returned (.bool (decide (sz (n+1) x<=room-ws.length)))/\am a g:=by
  intro a f;obtain⟨P,N,O,K,L,W,_⟩:=A.later f;obtain⟨v,y,rfl⟩:∃v y,P=ae v ws.length y:=by
   rcases L.2 with⟨d,E⟩|⟨R,c,Q,d,_⟩
   ·exact⟨none,0,by rw[d,E]⟩
   ·exact⟨_,c,d⟩
  exact BQ e room (sz (n+1) x) v ws.length y N O a (by omega) I H K
 by_cases i:bJ (n+1) x=0
 ·rw[i]at k;by_cases u:aT (n+1) x=false
  ·rw[u]at l;have d:kh (n+1) x room ws=5:=by simp[kh,i,u]
   refine(Po e x.1.1 x.1.2.1 x.1.2.2 x.2.1.1 x.2.2.length x.2.1.2 w k l).mono ?_;rintro s g ⟨rfl,h⟩;exact⟨λ_=>⟨by rw[d];rfl,h⟩,λj=>absurd (d.symm.trans j) (by decide)⟩
  ·have r:aT (n+1) x=true:=by simpa using u
   rw[r]at l;by_cases p:sz (n+1) x<=room-ws.length
   ·have t:decide (sz (n+1) x<=room-ws.length)=true:=by simpa using p
    rw[t]at q;have d:kh (n+1) x room ws=0:=by simp[kh,i,r,p]
    have C:aJ ⟨n+1,x⟩:=aU.2 (J4 i);have U:=wh (n+1) x C;have D:∀a,am w a->ao 112 #[.pointer (some ⟨e.b,e.o,none⟩),dG (n+1) x] a λd g=>d=.returned (JE (bk (n+1) x ws nm).1)/\Hid (mN base e room (bk (n+1) x ws nm).2.1 (bk (n+1) x ws nm).2.2 (λb=>M b/\b<w.heap.size) a g):=by
     intro a f;have J:=f.size;exact Nq (n+1) x base e room ws nm _ a (A.later f) ((m.below f).mono J) (G.mono λb h F=>h F.1) (by omega) C (by omega) (by omega)
    refine(Pq e x.1.1 x.1.2.1 x.1.2.2 x.2.1.1 x.2.2.length x.2.1.2 w (sz (n+1) x) (bk (n+1) x ws nm).1 base room (bk (n+1) x ws nm).2.1 (bk (n+1) x ws nm).2.2 M k l z q D).mono ?_;rintro s g ⟨rfl,h⟩;exact⟨λj=>absurd d j,λ_=>⟨⟨i,r,p⟩,rfl,h⟩⟩
   ·have t:decide (sz (n+1) x<=room-ws.length)=false:=by simpa using p
    rw[t]at q;have d:kh (n+1) x room ws=6:=by simp[kh,i,r,p]
    refine(Pp e x.1.1 x.1.2.1 x.1.2.2 x.2.1.1 x.2.2.length x.2.1.2 w (sz (n+1) x) k l z q).mono ?_;rintro s g ⟨rfl,h⟩;exact⟨λ_=>⟨by rw[d];rfl,h⟩,λj=>absurd (d.symm.trans j) (by decide)⟩
 ·have d:kh (n+1) x room ws=bJ (n+1) x:=by simp[kh,i]
  refine(Pn e x.1.1 x.1.2.1 x.1.2.2 x.2.1.1 x.2.2.length x.2.1.2 w (bJ (n+1) x) (by simpa using i) k).mono ?_;rintro s g ⟨rfl,h⟩;exact⟨λ_=>⟨by rw[d];rfl,h⟩,λj=>absurd (d.symm.trans j) i⟩
def qy(q:Nat)(k a:Int)(w:ag):Prop:=w.heap[q]?=some (.cells #[ab k,ab a] 109)/\rq (q+1) w
theorem FT(w:ag)(k a:Int):qy w.heap.size k a ((w.alloc (Obj.cells #[ab k,ab a] 109)).alloc (Obj.cells #[ab 0,ab 0,af ⟨#[]⟩,ae none 0 0] 31)):=by
 refine⟨((di (w.alloc (Obj.cells #[ab k,ab a] 109)) (Obj.cells #[ab 0,ab 0,af ⟨#[]⟩,ae none 0 0] 31) none).block _ (by simp) (by simp)).trans (aD w _),?_⟩;have:=aD (w.alloc (Obj.cells #[ab k,ab a] 109)) (Obj.cells #[ab 0,ab 0,af ⟨#[]⟩,ae none 0 0] 31);have es:∀o,(w.alloc o).heap.size=w.heap.size+1:=λo=>by simp
 rw[es]at this;exact this
theorem vB{k d:Int}{w w1 w2:ag}(e:am w w1/\w.heap.size+2<=w1.heap.size/\qy w.heap.size k d w1)(a:am w1 w2):am w w2/\w.heap.size+2<=w2.heap.size/\qy w.heap.size k d w2:=by
 obtain⟨b,f,c⟩:=e;have:=a.size;exact⟨b.trans (a.mono b.size),by omega,(a.block _ (by omega)).trans c.1,(a.block _ (by omega)).trans c.2⟩
theorem qy.cells{q:Nat}{k a:Int}{w:ag}(b:qy q k a w):w.cell? ⟨q,0,none⟩=some (ab k)/\w.cell? ⟨q,1,none⟩=some (ab a):=by
 obtain⟨c,_⟩:=b;refine⟨?_,?_⟩
 all_goals simp[World.cell?,c]
theorem Qp(c:cN)(k d:Int)(w:ag)(j:Hid (∀w1,am w w1->ao 113 #[.pointer (some ⟨c.b,c.o,none⟩),.agg #[ab k,ab d]] w1 λe w'=>e=.returned (.bool false)/\am w1 w')):ao 99 #[.pointer (some ⟨c.b,c.o,none⟩),.agg #[ab k,ab d]] w λe w'=>e=.returned (.tuple #[.agg #[ab 0,ab 0,af .empty,ae none 0 0],ab 1])/\am w w':=by
 go_enter func99,ntmps99;go_wp2_with fail;generalize h:(w.alloc (Obj.cells #[ab k,ab d] 109)).alloc (Obj.cells #[ab 0,ab 0,af ⟨#[]⟩,ae none 0 0] 31)=g;have a:Hid (am w g/\w.heap.size+2<=g.heap.size/\qy w.heap.size k d g):=by
  subst h;exact⟨(aS _ _).alloc (by simp) _,by simp,FT _ _ _⟩
 clear h;refine(j _ a.1).mono ?_;rintro e w1 ⟨rfl,f⟩;have i:=ap (vB a f);obtain⟨⟨m,n,p,q⟩,f0⟩:=i.2.2.2.cells;have l:=ap (λr s t u=>zx a.1 f r s t u);clear f a;go_wp2_with fail;exact ay (v:=.tuple #[.agg #[ab 0,ab 0,af .empty,ae none 0 0],ab 1]) (by simp[results,results99,go_sem,m,n,p,q];rfl) rfl ⟨rfl,l _ _ _ _⟩
theorem Pd(n:Nat)(x:Tm (n+1))(c:cN)(k d:Int)(w:ag)(A:Hid (∀w1,am w w1->ao 113 #[.pointer (some ⟨c.b,c.o,none⟩),.agg #[ab k,ab d]] w1 λe w'=>e=.returned (.bool true)/\am w1 w'))(C:Hid (∀w1,am w w1->ao 140 #[.pointer (some ⟨c.b,c.o,none⟩),.agg #[ab k,ab d]] w1 λe w'=>∃y:Tm (n+1),e=.returned (dG (n+1) y)/\Hid (am w1 w'/\In w'.heap.size w' (n+1) y/\cD (λq=>w1.heap.size<=q) (n+1) y/\aB (n+1) y (n+1) x=true))):ao 99 #[.pointer (some ⟨c.b,c.o,none⟩),.agg #[ab k,ab d]] w λe w'=>∃y:Tm (n+1),e=.returned (.tuple #[dG (n+1) y,ab 0])/\Hid (am w w'/\In w'.heap.size w' (n+1) y/\cD (λq=>w.heap.size<=q) (n+1) y/\aB (n+1) y (n+1) x=true):=by
 go_enter func99,ntmps99;go_wp2_with fail;generalize t:(w.alloc (Obj.cells #[ab k,ab d] 109)).alloc (Obj.cells #[ab 0,ab 0,af ⟨#[]⟩,ae none 0 0] 31)=m;have j:Hid (am w m/\w.heap.size+2<=m.heap.size/\qy w.heap.size k d m):=by
  subst t;exact⟨(aS _ _).alloc (by simp) _,by simp,FT _ _ _⟩
 clear t;refine(A _ j.1).mono ?_;rintro e w1 ⟨rfl,s⟩;have a:=ap (vB j s);obtain⟨t0,t1⟩:=a.out.2.2.cells;clear s j;go_wp2_with fail;refine(C _ a.1).mono ?_;rintro e p ⟨y,rfl,l⟩;have z:=ap (vB a l.1);obtain⟨⟨H,I,J,K⟩,f0⟩:=z.2.2.2.cells;have B:Hid (∀f g h i,am w (df p (w.heap.size+1) 0 f g h i)/\In (df p (w.heap.size+1) 0 f g h i).heap.size (df p (w.heap.size+1) 0 f g h i) (n+1) y/\cD (λq=>w.heap.size<=q) (n+1) y/\aB (n+1) y (n+1) x=true):=by
  intro f g h i;obtain⟨E,F,u,G⟩:=l.out;have L:=a.2.1;refine⟨zx a.1 E f g h i,?_,u.mono λq D=>by omega,G⟩;rw[bG];exact In.off (λq D=>bm (by omega) _ _ _ _) u F
 have r:dG (n+1) y=.agg #[ab y.1.1,ab y.1.2.1,af y.1.2.2,ae y.2.1.1 y.2.2.length y.2.1.2]:=rfl;rw[r];clear t0 t1 l a r;go_wp2_with fail;exact ay (v:=.tuple #[dG (n+1) y,ab 0]) (by simp[results,results99,go_sem,H,I,J,K,dG]) rfl ⟨y,rfl,B _ _ _ _⟩
theorem EH{c:Type}{l b:List c}(d:l <+:b){i:Nat}{x:c}(a:l[i]?=some x):b[i]?=some x:=by
 obtain⟨e,rfl⟩:=d;rw[dB (aZ.1 a).1];exact a
theorem ei.mono{ws l:List Wd}{nm k:br}(d:ws <+:l)(j:nm <+:k):{n:Nat}->{x:Tm n}->{v:Wd}->ei ws nm n x v->ei l k n x v
 | 0,_,_,h=>h
 | n+1,x,v,h=>by
  obtain⟨a,b,c⟩:=h;refine⟨λe=>?_,λe=>?_,c⟩
  ·obtain⟨i,f,g⟩:=a e;exact⟨i,f,EH j g⟩
  ·obtain⟨p,f,g,m,o⟩:=b e;refine⟨p,f,EH d g,aF m d.length_le,λi y s=>?_⟩;obtain⟨t,q,r⟩:=o i y s;exact⟨t,EH d q,r.mono d j⟩
theorem Il(nm:br)(s:aq):nm <+:fh nm s:=by
 unfold fh;split
 ·exact gY _
 ·exact pQ _ _
theorem rS{n:Nat}(f:∀(x:Tm n)(ws:List Wd)(nm:br),ws <+:(bk n x ws nm).2.1/\nm <+:(bk n x ws nm).2.2)(l:List (Tm n))(ws:List Wd)(nm:br):ws <+:(bV (bk n) l ws nm).2.1/\nm <+:(bV (bk n) l ws nm).2.2:=by
 induction l generalizing ws nm with
 | nil=>exact⟨gY _,gY _⟩
 | cons a l ih=>
  obtain⟨d,b⟩:=f a ws nm;obtain⟨c,e⟩:=ih (bk n a ws nm).2.1 (bk n a ws nm).2.2;exact⟨d.trans c,b.trans e⟩
theorem mX:(n:Nat)->(x:Tm n)->(ws:List Wd)->(nm:br)->ws <+:(bk n x ws nm).2.1/\nm <+:(bk n x ws nm).2.2
 | 0,_,_,_=>⟨gY _,gY _⟩
 | n+1,x,ws,nm=>by
  by_cases c:x.1.1=2
  ·simp only[bk,if_pos c];exact⟨gY _,Il _ _⟩
  ·by_cases d:x.1.1=4
   ·simp only[bk,if_neg c,if_pos d];obtain⟨a,b⟩:=rS (mX n) x.2.2 ws nm;exact⟨a.trans (pQ _ _),b⟩
   ·simp only[bk,if_neg c,if_neg d];exact⟨gY _,gY _⟩
theorem K8(nm:br)(s:aq):(fh nm s)[lT (fh nm s) s]?=some s:=by
 have d:s∈fh nm s:=by
  unfold fh;split
  ·rename_i b;exact(Ai nm s).1 b
  ·simp
 have a:lT (fh nm s) s<(fh nm s).length:=by
  unfold lT;rw[List.findIdx_lt_length];exact⟨s,d,(pj s s).2 rfl⟩
 have c:(fh nm s)[lT (fh nm s) s]'a=s:=(pj s _).1 (List.findIdx_getElem (w:=a));rw[aN a,c]
theorem oL{n:Nat}(j:∀(x:Tm n)(ws:List Wd)(nm:br),aJ ⟨n,x⟩->ei (bk n x ws nm).2.1 (bk n x ws nm).2.2 n x (bk n x ws nm).1)(l:List (Tm n))(ws:List Wd)(nm:br)(e:∀y∈l,aJ ⟨n,y⟩):∀(i:Nat)(y:Tm n),l[i]?=some y->∃d,(bV (bk n) l ws nm).1[i]?=some d/\ei (bV (bk n) l ws nm).2.1 (bV (bk n) l ws nm).2.2 n y d:=by
 induction l generalizing ws nm with
 | nil=>intro i y a;simp at a
 | cons c l ih=>
  intro i y a;cases i with
  | zero=>
   simp at a;subst a;obtain⟨f,b⟩:=rS (mX n) l (bk n c ws nm).2.1 (bk n c ws nm).2.2;exact⟨(bk n c ws nm).1,rfl,(j c ws nm (e c (by simp))).mono f b⟩
  | succ i=>
   obtain⟨d,g,h⟩:=ih (bk n c ws nm).2.1 (bk n c ws nm).2.2 (λy a=>e y (by simp[a])) i y (by simpa using a);exact⟨d,by simpa [bV]using g,h⟩
theorem io:(n:Nat)->(x:Tm n)->(ws:List Wd)->(nm:br)->aJ ⟨n,x⟩->ei (bk n x ws nm).2.1 (bk n x ws nm).2.2 n x (bk n x ws nm).1
 | 0,_,_,_,h=>(dA h).elim
 | n+1,x,ws,nm,h=>by
  by_cases b:x.1.1=2
  ·have c:¬x.1.1=4:=by omega
   simp only[bk,if_pos b];exact⟨λ_=>⟨_,rfl,K8 _ _⟩,λa=>absurd a c,λa=>absurd b a⟩
  ·by_cases c:x.1.1=4
   ·simp only[bk,if_neg b,if_pos c];have j:=ip (bk n) x.2.2 ws nm;refine⟨λa=>absurd a b,λ_=>⟨_,rfl,?_,?_,λe f d=>?_⟩,λ_ a=>absurd c a⟩
    ·rw[dR (av _),gu];rfl
    ·simp only[bz,bA,j];omega
    ·obtain⟨k,g,i⟩:=oL (io n) x.2.2 ws nm (λf d=>bj n x f h d) e f d;refine⟨k,?_,i.mono (pQ _ _) (gY _)⟩;rw[dR (by omega)];have:(bV (bk n) x.2.2 ws nm).2.1.length+1+e-(bV (bk n) x.2.2 ws nm).2.1.length=e+1:=by omega
     rw[this];simpa using g
   ·simp only[bk,if_neg b,if_neg c];exact⟨λa=>absurd a b,λa=>absurd a c,λ_ _=>rfl⟩
def A0(q:Nat)(w:ag):Prop:=w.heap[q]?=some (.cells #[ab 0,ab 0] 109)
theorem A0.facts{q:Nat}{w:ag}(a:A0 q w):(w.cell? ⟨q,0,none⟩=some (ab 0)/\w.cell? ⟨q,1,none⟩=some (ab 0))/\w.frozen? ⟨q,0,none⟩=false/\w.frozen? ⟨q,1,none⟩=false:=by
 unfold A0 at a;refine⟨⟨?_,?_⟩,?_,?_⟩
 all_goals simp[World.cell?,World.frozen?,a]
theorem C3{ws:List Wd}{nm:br}{n:Nat}{x:Tm n}{v:Wd}(h:ei ws nm n x v)(r:aJ ⟨n,x⟩)(g:aT n x=true)(t:ws.length<=100000)(s:nm.length<=100000):dd ws nm v=true/\dN v.2:=by
 cases n with
 | zero=>exact h.elim
 | succ n=>
 have d:=r (bO n x) (by simp[aC,bO]);have i:=kP (bO n x) d;simp only[bO]at i;simp only[aT,aK,ld,g9]at g;obtain⟨m,b,c⟩:=h;by_cases e:x.1.1=2
 ·obtain⟨k,rfl,p⟩:=m e;have j:=(aZ.1 p).1;refine⟨?_,?_⟩
  ·simp[dd,vE,j]
  ·unfold dN;show (-9223372036854775808:Int)<=(k:Int)/\(k:Int)<=9223372036854775807;omega
 ·by_cases f:x.1.1=4
  ·obtain⟨l,rfl,q,j,_⟩:=b f;refine⟨?_,?_⟩
   ·simp[dd,gA,q]
   ·unfold dN;show (-9223372036854775808:Int)<=(l:Int)/\(l:Int)<=9223372036854775807;omega
  ·obtain rfl:=c e f;refine⟨?_,(vC _ d).2⟩;have o:x.1.1=1\/x.1.1=3:=by
    rcases i with a|a|a|a|a|a
    ·exact aj a
    ·exact absurd a e
    ·exact ak a
    ·exact absurd a f
    ·exact absurd a g.1.1
    ·exact absurd a.1 g.1.2
   unfold cQ at d;simp only[bO]at d;rcases o with a|a
   ·simp[dd,a]at d ⊢;exact d.1.2
   ·simp[dd,a]at d ⊢;exact d.1.2
theorem KB(n:Nat)(x:Tm n)(v:Wd)(base:Nat)(a:cN)(room:Int)(ws:List Wd)(nm:br)(M:aO)(w:ag)(h:eh base a room ws nm M w)(d:ei ws nm n x v)(j:aJ ⟨n,x⟩)(m:aT n x=true)(f:ws.length<=100000)(i:nm.length<=100000):ao 99 #[.pointer (some ⟨a.b,a.o,none⟩),JE v] w λe w'=>∃y:Tm n,e=.returned (.tuple #[dG n y,ab 0])/\Hid (am w w'/\In w'.heap.size w' n y/\cD (λq=>w.heap.size<=q) n y/\aB n y n x=true):=by
 cases n with
 | zero=>exact d.elim
 | succ n=>
 obtain⟨l,p⟩:=C3 d j m f i;refine Pd n x a v.1 v.2 w ?_ ?_
 ·intro g c;have k:=wP base a room ws nm _ v g (h.later c) f p;rw[l]at k;exact k
 ·exact λg c=>LX (n+1) x v base a room ws nm _ g (h.later c) f i d j
abbrev dq:=List (Nat×Nat)
def look(g:dq)(p:Nat):Option Nat:=(g.find? λe=>e.1==p).map λe=>e.2
theorem s9(g:dq)(p q:Nat):look ((p,q)::g) p=some q:=by simp[look]
theorem qL(g:dq){p r:Nat}(q:Nat)(a:r≠p):look ((p,q)::g) r=look g r:=by
 have:(p==r)=false:=by simp;omega
 simp[look,this]
def im(f:Wd->List Wd×dq->Wd×List Wd×dq):List Wd->List Wd×dq->List Wd×List Wd×dq
 | [],S=>([],S)
 | v::l,S=>((f v S).1::(im f l (f v S).2).1,(im f l (f v S).2).2)
def j8(ws:List Wd):Nat->Wd->List Wd×dq->Wd×List Wd×dq
 | 0,v,S=>(v,S)
 | n+1,v,S=>
  if v.1=4 then
   match look S.2 v.2.toNat with
   | some q=>((4,(q:Int)),S)
   | none=>
    match ws[v.2.toNat]? with
    | some a=>((4,((im (j8 ws n) ((ws.drop (v.2.toNat+1)).take a.2.toNat) S).2.1.length:Int)),(im (j8 ws n) ((ws.drop (v.2.toNat+1)).take a.2.toNat) S).2.1++(0,a.2)::(im (j8 ws n) ((ws.drop (v.2.toNat+1)).take a.2.toNat) S).1,(v.2.toNat,(im (j8 ws n) ((ws.drop (v.2.toNat+1)).take a.2.toNat) S).2.1.length)::(im (j8 ws n) ((ws.drop (v.2.toNat+1)).take a.2.toNat) S).2.2)
    | none=>(v,S)
  else (v,S)
theorem Kb(f:Wd->List Wd×dq->Wd×List Wd×dq)(l:List Wd)(v:Wd)(S:List Wd×dq):im f (l++ [v]) S=((im f l S).1++ [(f v (im f l S).2).1],(f v (im f l S).2).2):=by
 induction l generalizing S with
 | nil=>simp[im]
 | cons a l ih=>simp[im,ih]
theorem qD(f:Wd->List Wd×dq->Wd×List Wd×dq)(l:List Wd)(S:List Wd×dq):(im f l S).1.length=l.length:=by
 induction l generalizing S with
 | nil=>simp[im]
 | cons a l ih=>simp[im,ih]
def uY(D:DataW Unit)(g:dq):Prop:=∀p:Nat,(Maps.has D (.int .i64 p)=true ↔ (look g p).isSome=true)/\∀q:Nat,look g p=some q->D.atKey (.int .i64 p) (.lit (.int .i64 0))=.lit (.int .i64 q)
theorem Mk:uY (.map []) []:=λp=>⟨by simp[Maps.has,look],λq a=>by simp[look]at a⟩
theorem F9(k:Int):WideAt.IsKeyLit (.int .i64 k):=by first|trivial|simp[WideAt.IsKeyLit]|decide
theorem Ml{w:World}{j L:Nat}{D:DataW Unit}{g:dq}(f:w.ownsMap Tryz.prog 3 (plainElem Tryz.prog 3) j L D)(e:uY D g)(p q:Nat):uY (D.put (.int .i64 p) (.lit (.int .i64 q))) ((p,q)::g):=by
 intro c;by_cases b:c=p
 ·subst b;refine⟨?_,λi a=>?_⟩
  ·rw[has_put_same f.isMap (F9 _),s9];simp
  ·rw[s9]at a;rw[atKey_put_same f.isMap (F9 _),az a]
 ·have h:(Lit.int .i64 (c:Int))≠(Lit.int .i64 (p:Int)):=λd=>b (by injection d with _ d;omega);refine⟨?_,λi a=>?_⟩
  ·rw[has_put_other h,qL g q b];exact(e c).1
  ·rw[qL g q b]at a;rw[atKey_put_other h];exact(e c).2 i a
theorem Ec:Keyed Tryz.prog 3:=int_keyed underlying3
def CB(a:Nat)(b tv mv:Value)(w:World):Prop:=w.heap[a]?=some (.cells #[b,tv,mv] 206)
theorem CB.lt{a:Nat}{b tv mv:Value}{w:World}(c:CB a b tv mv w):a<w.heap.size:=(aI.1 c).1
theorem CB.cells{a:Nat}{b tv mv:Value}{w:World}(c:CB a b tv mv w):(w.cell? ⟨a,0,none⟩=some b/\w.cell? ⟨a,1,none⟩=some tv/\w.cell? ⟨a,2,none⟩=some mv)/\∀j,w.frozen? ⟨a,j,none⟩=false:=by
 unfold CB at c;refine⟨⟨?_,?_,?_⟩,λj=>?_⟩
 all_goals simp[World.cell?,World.frozen?,c]
theorem CB.set1{a:Nat}{b tv mv:Value}{w:World}(c:CB a b tv mv w)(v:Value):CB a b v mv (w.setCell ⟨a,1,none⟩ v):=by
 unfold CB at*;simp[World.setCell,bT,c]
theorem CB.kept{a:Nat}{b tv mv:Value}{w w':World}(c:CB a b tv mv w)(k:w'.heap[a]?=w.heap[a]?):CB a b tv mv w':=k.trans c
def je(base e:Nat)(f:Value)(S:List Wd×dq)(M:Nat->Prop)(w:World):Prop:=
 ∃c a d,CB e f c (.map (some a)) w/\w.ownsRow base 109 2 c S.1.length (bq S.1)/\w.ownsMap Tryz.prog 3 (plainElem Tryz.prog 3) a S.2.length d/\uY d S.2/\M e/\(∀b,c.ownBlock=some b->M b)/\M a
theorem je.kept{base a:Nat}{g:Value}{S:List Wd×dq}{M T:Nat->Prop}{w w':World}(q:je base a g S M w)(k:ch T w w')(d:∀b,M b->b<w.heap.size->¬T b):je base a g S M w':=by
 obtain⟨u,e,o,c,h,i,r,j,l,m⟩:=q;refine⟨u,e,o,c.kept (k.block a c.lt (d a j c.lt)),eE h k λb f=>d b (l b f) (h.lt b f).2,?_,r,j,l,m⟩;have n:=i.lt;obtain⟨es,p,s,t⟩:=i;exact⟨es,p,(k.block e n (d e m n)).trans s,t⟩
theorem je.inside{base a:Nat}{d:Value}{S:List Wd×dq}{M:Nat->Prop}{w:World}(i:je base a d S M w):je base a d S (λb=>M b/\b<w.heap.size) w:=by
 obtain⟨o,n,h,e,f,g,j,k,l,m⟩:=i;exact⟨o,n,h,e,f,g,j,⟨k,e.lt⟩,λb c=>⟨l b c,(f.lt b c).2⟩,m,g.lt⟩
theorem je.later{base c:Nat}{d:Value}{S:List Wd×dq}{M:Nat->Prop}{w wA:World}(a:je base c d S M w)(e:Below w.heap.size w wA):je base c d S (λb=>M b/\b<w.heap.size) wA:=
 a.inside.kept (bu e (λ_=>False)) λ_ _ _ a=>a
theorem je.mono{base a:Nat}{c:Value}{S:List Wd×dq}{M T:Nat->Prop}{w:World}(f:je base a c S M w)(k:∀b,M b->T b):je base a c S T w:=by
 obtain⟨p,o,d,g,h,i,j,l,m,n⟩:=f;exact⟨p,o,d,g,h,i,j,k _ l,λb e=>k b (m b e),k _ n⟩
theorem Lc(b:Nat)(k a:Int)(w:World)(c:¬k=4):Calls Tryz.prog 151 #[.pointer (some ⟨b,0,none⟩),.agg #[.int .i64 k,.int .i64 a]] w λe w'=>e=.returned (.agg #[.int .i64 k,.int .i64 a])/\Below w.heap.size w w':=by
 have d:(k !=4)=true:=by simpa using c
 go_enter func151,ntmps151;go_wp2_with fail;exact ay (v:=.agg #[.int .i64 k,.int .i64 a]) (by simp[results,results151,go_sem]) rfl ⟨rfl,by go_grown⟩
theorem Ob{D:DataW Unit}{g:dq}(b:uY D g){p q:Nat}{c:Int}(d:look g p=some q)(a:D.atKey (.int .i64 p) (.lit (.int .i64 0))=.lit (.int .i64 c)):c=q:=by
 have:=(b p).2 q d;rw[this]at a;simp at a;exact a.symm
theorem NF(base g:Nat)(x:Value)(S:List Wd×dq)(M:Nat->Prop)(p q:Nat)(w:World)(a:Hid (je base g x S M w))(r:Hid (look S.2 p=some q))(N:p<=100000):Calls Tryz.prog 151 #[.pointer (some ⟨g,0,none⟩),.agg #[.int .i64 4,.int .i64 p]] w λe w'=>e=.returned (.agg #[.int .i64 4,.int .i64 q])/\Below w.heap.size w w':=by
 go_enter func151,ntmps151;go_wp2_with fail;generalize h:(w.alloc (Obj.cells #[Value.int IntKind.i64 4,Value.int IntKind.i64 p] 109)).alloc (Obj.cells #[.int .i64 0,.int .i64 0] 109)=wA;have j:Hid (Below w.heap.size w wA.drew/\wA.drew.heap.size=w.heap.size+2):=by
  subst h;exact⟨(((aA _ _).alloc (av _) _).alloc (by simp) _).drew,by simp[World.drew]⟩
 have K:wA.cell? ⟨w.heap.size,1,none⟩=some (.int .i64 p):=by subst h;simp[go_sem]
 have l:Hid (A0 (w.heap.size+1) wA.drew):=by
  subst h;have:=aD (w.alloc (Obj.cells #[Value.int IntKind.i64 4,Value.int IntKind.i64 p] 109)) (Obj.cells #[.int .i64 0,.int .i64 0] 109);have es:∀o,(w.alloc o).heap.size=w.heap.size+1:=λo=>by simp
  rw[es]at this;exact this
 obtain⟨d,J,D⟩:∃d,wA.cell? ⟨g,2,none⟩=some (.map (some d))/\(Instr.lookup 204 (.map (some d)) (.int .i64 p) true).run Tryz.prog wA.drew=.ok (.tuple #[.int .i64 q,.bool true]) wA.drew:=by
  obtain⟨O,d,t,y,L,z,m,_⟩:=a.out.later j.1;obtain⟨v,ps,s,E⟩:=z.look_ok Ec underlying204 (sI _) (plainElem_int underlying3 (iZ (by omega))) (keyOf_int_mk underlying3 (iZ (n:=(p:Int)) (by omega)));obtain⟨c,rfl,B,_⟩:=plainElem_int_inv underlying3 E;have e:=Ob m r (congrArg Prod.fst B);have C:Maps.has t (.int .i64 p)=true:=(m p).1.2 (by rw[r.out];rfl);rw[C,e]at s;exact⟨d,y.cells.1.2.2,s⟩
 clear h a;go_region_held3 (λw'=>w'.cell? ⟨w.heap.size,1,none⟩=some (.int .i64 p)/\w'.cell? ⟨g,2,none⟩=some (.map (some d))) (go_keep) (fail);obtain⟨⟨H,I⟩,f0,f1⟩:=l.out.facts;have u:Hid (∀i k,Below w.heap.size w ((wA.drew.setCell ⟨w.heap.size+1,0,none⟩ i).setCell ⟨w.heap.size+1,1,none⟩ k)):=by
  intro i k;have F:=bF wA.drew (w.heap.size+1) 0 i;have G:=bF (wA.drew.setCell ⟨w.heap.size+1,0,none⟩ i) (w.heap.size+1) 1 k;have f:=(bu j.1 (λb=>b=w.heap.size+1)).trans (F.trans G (λb _ a=>a)) (λb _ a=>a);exact⟨f.os,f.tape,f.output,f.size,λb A=>f.block b A (by omega)⟩
 clear D l j;generalize wA.drew=P at*;go_wp2_with fail;exact ay (v:=.agg #[.int .i64 4,.int .i64 q]) (by simp[results,results151,go_sem,H,I]) rfl ⟨rfl,u _ _⟩
def xL(base a:Nat)(c:au)(S:List Wd×dq)(M:aO)(w w':ag):Prop:=je base a c S (λb=>M b\/w.heap.size<=b) w'/\ch M w w'
def zi(f:Wd->List Wd×dq->Wd×List Wd×dq)(vs:List Wd)(len base c:Nat)(d:au)(S:List Wd×dq)(M:aO)(g:Nat)(w a:ag)(k:Nat)(wr:ag):Prop:=
 wr.ownsRow g 109 2 (ae (some ⟨g,0,none⟩) len len) len (bq ((im f (vs.take k) S).1++List.replicate (len-k) (0,0)))/\
 je base c d (im f (vs.take k) S).2 (λb=>(M b/\b<w.heap.size)\/a.heap.size<=b) wr/\
 ch (λb=>(M b/\b<w.heap.size)\/b=g) a wr
theorem JP{f:Wd->List Wd×dq->Wd×List Wd×dq}{vs:List Wd}{len base g:Nat}{h:au}{S:List Wd×dq}{M:aO}{w w0:ag}(d:je base g h S M w)(e:w0.ownsRow w.heap.size 109 2 (ae (some ⟨w.heap.size,0,none⟩) len len) len (madeCells (Value.agg #[ab 0,ab 0]).cells (len*2)).toList)(a:w.grownBy w0 none):zi f vs len base g h S M w.heap.size w w0 0 w0/\am w w0/\w.heap.size<w0.heap.size:=by
 have c:am w w0:=⟨a.os,a.tape,a.output,a.size,λb c=>a.block b c (by simp)⟩;refine⟨⟨?_,?_,ch.refl _ _⟩,c,(e.lt _ rfl).2⟩
 ·simp only[nD,im,iy,Nat.sub_zero];have i:=vW len;have j:(Value.agg #[ab 0,ab 0]).cells= #[ab 0,ab 0]:=rfl;rw[j,i]at e;exact e
 ·simp only[nD,im];exact(d.later c).mono λb d=>aj d
theorem zi.step{f:Wd->List Wd×dq->Wd×List Wd×dq}{vs:List Wd}{len base i:Nat}{l:au}{S:List Wd×dq}{M:aO}{g:Nat}{w d:ag}{k:Nat}{wr w1 w2:ag}(H:zi f vs len base i l S M g w d k wr)(G:w.heap.size<=g)(I:g<d.heap.size)(K:k<len)(L:vs.length=len){v:Wd}(A:vs[k]?=some v)(m:am wr w1)(z:xL base i l (f v (im f (vs.take k) S).2).2 (λb=>((M b/\b<w.heap.size)\/d.heap.size<=b)/\b<wr.heap.size) w1 w2):zi f vs len base i l S M g w d (k+1) ((w2.setCell ⟨g,k*2,none⟩ (ab (f v (im f (vs.take k) S).2).1.1)).setCell ⟨g,k*2+1,none⟩ (ab (f v (im f (vs.take k) S).2).1.2))/\ (ai w2 g (k*2) (ab 0)/\ai w2 g (k*2+1) (ab 0))/\w2.frozen? ⟨g,k*2,none⟩=false/\w2.frozen? ⟨g,k*2+1,none⟩=false:=by
 obtain⟨o,E,p⟩:=H;obtain⟨u,q⟩:=z;have J:g<wr.heap.size:=(o.lt g rfl).2;have N:=m.size;have O:=p.size;have r:im f (vs.take (k+1)) S=((im f (vs.take k) S).1++ [(f v (im f (vs.take k) S).2).1],(f v (im f (vs.take k) S).2).2):=by
  rw[dF,A];exact Kb _ _ _ _
 have s:(im f (vs.take k) S).1.length=k:=by rw[qD,dK];omega
 have h:w2.ownsRow g 109 2 (ae (some ⟨g,0,none⟩) len len) len (bq ((im f (vs.take k) S).1++List.replicate (len-k) (0,0))):=by
  refine eE (ez o m) q λb j=>?_;simp only[Value.ownBlock]at j;obtain rfl:=az j;omega
 generalize im f (vs.take k) S=e at*;generalize f v e.2=c at*;have B:(e.1++List.replicate (len-k) (0,0))[k]?=some ((0,0):Wd):=by
  rw[dR (by omega),s,gu,List.getElem?_replicate];simp;omega
 have C:=bF w2 g (k*2) (ab c.1.1);have D:=bF (w2.setCell ⟨g,k*2,none⟩ (ab c.1.1)) g (k*2+1) (ab c.1.2);have t:=C.trans D (λb _ a=>a);refine⟨⟨?_,?_,?_⟩,jz h k (0,0) B,pA h _,pA h _⟩
 ·rw[r];have n:=jM (jM h (k*2) (ab c.1.1)) (k*2+1) (ab c.1.2);rw[ri _ k c.1 (by simp;omega)]at n;have es:(e.1++List.replicate (len-k) ((0,0):Wd)).set k c.1=(e.1++ [c.1])++List.replicate (len-(k+1)) (0,0):=by
   rw[iV _ _ (by omega)];have:len-k=(len-(k+1))+1:=by omega
   rw[this,List.replicate_succ];simp[s]
  rw[es]at n;exact n
 ·rw[r];refine(u.kept t ?_).mono ?_
  ·rintro b (⟨a,_⟩|a) _ j<;>omega
  ·rintro b (⟨a,_⟩|a)
   ·exact a
   ·exact ak (by omega)
 ·have x:ch (λb=>(M b/\b<w.heap.size)\/b=g) d w1:=p.trans (bu m (λ_=>False)) (λ_ _ a=>a.elim)
  have y:ch (λb=>(M b/\b<w.heap.size)\/b=g) d w2:=x.trans q (λb F a=>by
   rcases a.1 with a|a
   ·exact aj a
   ·omega)
  exact y.trans t (λb _ a=>ak a)
def Dy(f:Wd->List Wd×dq->Wd×List Wd×dq)(vs:List Wd)(base c:Nat)(d:au)(S:List Wd×dq)(M:aO)(g:Nat)(w w':ag):Prop:=
 ∃a,je base c d (im f vs S).2 a w'/\ch M w w'/\(∀b,a b->M b\/w.heap.size<=b)/\¬a g/\w.heap.size<=g/\w'.ownsRow g 109 2 (ae (some ⟨g,0,none⟩) vs.length vs.length) vs.length (bq (im f vs S).1)
theorem zi.done{f:Wd->List Wd×dq->Wd×List Wd×dq}{vs:List Wd}{len base h:Nat}{i:au}{S:List Wd×dq}{M:aO}{g:Nat}{w d wr:ag}(H:zi f vs len base h i S M g w d len wr)(m:vs.length=len)(l:w.heap.size<=g)(o:g<d.heap.size)(j:am w d):Dy f vs base h i S M g w wr:=by
 obtain⟨c,e,k⟩:=H;rw[bD (by omega)]at c e;rw[gu,nC,dQ]at c;subst m;refine⟨_,e,(bu j M).trans k ?_,?_,?_,l,c⟩
 ·rintro b n (a|a)
  ·exact a.1
  ·omega
 ·rintro b (a|a)
  ·exact aj a.1
  ·exact ak (by have:=j.size;omega)
 ·rintro (a|a)<;>omega
theorem zK(f:Wd->List Wd×dq->Wd×List Wd×dq)(vs:List Wd)(base d:Nat)(i:au)(S:List Wd×dq)(M:aO)(a:ar)(len pc:Nat)(w:ag)(s:Hid (vs.length=len))(X:len<=100000)(c:Hid (je base d i S M w))(D:Hid (fk w vs a))(H:Hid (∀b o,a=some ⟨b,o,none⟩->¬M b))(ih:Hid (∀(k:Nat)(v:Wd),vs[k]?=some v->∀(M':aO)(w1:ag),je base d i (im f (vs.take k) S).2 M' w1->ch M w w1->(∀b,M' b->M b\/w.heap.size<=b)-> ao 151 #[aH d,.agg #[ab v.1,ab v.2]] w1 λe w2=>e=.returned (.agg #[ab (f v (im f (vs.take k) S).2).1.1,ab (f v (im f (vs.take k) S).2).1.2])/\Hid (xL base d i (f v (im f (vs.take k) S).2).2 M' w1 w2))):ao 114 #[aH d,ae a len pc] w λe w'=>∃g,e=.returned (ae (some ⟨g,0,none⟩) len len)/\Hid (Dy f vs base d i S M g w w'):=by
 obtain⟨Q,E,J,K,L⟩:=bY lO;go_enter func114,ntmps114;go_wp2_with (at_make;refine lD _ rfl _ _ 100 rfl w.heap.size 109 Q _ 2 underlying100 E J K _ _ _ _ len rfl rfl rfl rfl (by rw[L];omega) (by unfold maxLen;omega) (av _) ?_;intro p I C;have m:=ap (JP (f:=f) (vs:=vs) c I C);clear I C);clear E J K L;have y:Hid (zi f vs len base d i S M w.heap.size w p 0 p):=m.1;have B:w.heap.size<p.heap.size:=m.2.2;go_loopw [13] (λj wr=>∃k:Nat,k<=len/\j=ab k/\Hid (zi f vs len base d i S M w.heap.size w p k wr)) (λj _=>len-(intOf j).toNat)
 case atStart=>exact⟨0,by omega,rfl,y⟩
 case round=>
  clear y;obtain⟨k,U,rfl,h⟩:=hrel;by_cases G:k<len
  ·obtain⟨v,l⟩:∃v,vs[k]?=some v:=⟨vs[k]'(by rw[s.out];exact G),aN _⟩;obtain⟨b,o,rfl,A,N⟩:∃b o,a=some ⟨b,o,none⟩/\b<w.heap.size/\∀(j:Nat)(v:Wd),vs[j]?=some v->ai w b (o+j*2) (ab v.1)/\ai w b (o+j*2+1) (ab v.2):=by
    rcases D.out with e|e
    ·rw[e]at l;simp at l
    ·exact e
   obtain⟨t,u⟩:=N k v l;have r:wr.heap[b]?=w.heap[b]? :=(h.2.2.block b (by omega) (by rintro (c|c);exact H b o rfl c.1;omega)).trans (m.2.1.block b A);replace t:=(bH r (o+k*2)).trans t;replace u:=(bH r (o+k*2+1)).trans u;have T:w.heap.size<wr.heap.size:=(h.1.lt _ rfl).2;have Y:=h.2.2.size;have F:ch M w wr:=(bu m.2.1 M).trans h.2.2 (by rintro b A (c|c);exact c.1;omega)
   obtain⟨n,x⟩:∃n:Wd,Hid (∀w1,am wr w1->ao 151 #[aH d,.agg #[ab v.1,ab v.2]] w1 λe w2=>e=.returned (.agg #[ab n.1,ab n.2])/\
       Hid (zi f vs len base d i S M w.heap.size w p (k+1) ((w2.setCell ⟨w.heap.size,k*2,none⟩ (ab n.1)).setCell ⟨w.heap.size,k*2+1,none⟩ (ab n.2))/\
        (ai w2 w.heap.size (k*2) (ab 0)/\ai w2 w.heap.size (k*2+1) (ab 0))/\w2.frozen? ⟨w.heap.size,k*2,none⟩=false/\w2.frozen? ⟨w.heap.size,k*2+1,none⟩=false)):=by
    refine⟨(f v (im f (vs.take k) S).2).1,λw1 q=>?_⟩;refine(ih k v l _ w1 (h.2.1.later q) (F.trans (bu q M) (λ_ _ c=>c)) ?_).mono ?_
    ·rintro b ⟨c|c,_⟩
     ·exact aj c.1
     ·exact ak (by omega)
    ·rintro e w2 ⟨rfl,P⟩;exact⟨rfl,h.step (av _) B G s l q P⟩
   clear ih h D N l H r F;have V:(0:Int)<=(k:Int):=by omega
   have W:(k:Int)<(len:Int):=by omega
   have R:b<wr.heap.size:=by omega
   go_wp2_with fail;refine(x _ (aS _ _)).mono ?_;rintro e w2 ⟨rfl,z⟩;obtain⟨⟨d0,d1⟩,f0,f1⟩:=z.out.2;clear x t u;go_wp2_with fail;go_roundw
   case rel=>exact⟨k+1,by omega,by go_num,z.1⟩
   case measure=>simp[intOf];omega
  ·obtain rfl:k=len:=by omega
   have O:=ap (h.done s (av _) B m.2.1);clear h ih;go_wp2_with fail
   go_ret
   exact⟨_,rfl,O⟩
theorem Lw{w:ag}{base:Nat}{e:TypeId}{s n:Nat}{v:au}{xs:cX}{b:Nat}{c tv mv:au}(f:w.ownsRow base e s v n xs)(h:CB b c tv mv w)(j:e≠206):v.ownBlock≠some b:=λe=>by
 rcases f.2 with⟨rfl,_⟩|⟨d,cap,k,rfl,_,i,_⟩
 ·simp[Value.ownBlock]at e
 ·simp[Value.ownBlock]at e;subst e;have a:w.heap[d]?=_:=h;rw[i]at a;injection a with a;injection a with a g;exact j g
theorem CG{w:ag}{base:Nat}{e:TypeId}{s n L c:Nat}{v:au}{xs:cX}{D:DataW Unit}(d:w.ownsRow base e s v n xs)(f:w.ownsMap Tryz.prog 3 (plainElem Tryz.prog 3) c L D):v.ownBlock≠some c:=λa=>by
 rcases d.2 with⟨rfl,_⟩|⟨g,cap,j,rfl,_,h,_⟩
 ·simp[Value.ownBlock]at a
 ·simp only[Value.ownBlock]at a;obtain rfl:=az a;obtain⟨es,i,b,_⟩:=f;rw[h]at b;cases b
theorem vZ{w:ag}{L a b:Nat}{D:DataW Unit}{d tv mv:au}(f:w.ownsMap Tryz.prog 3 (plainElem Tryz.prog 3) a L D)(e:CB b d tv mv w):a≠b:=by
 rintro rfl;obtain⟨es,h,g,_⟩:=f;have c:w.heap[a]?=_:=e;rw[g]at c;cases c
theorem QL(base d:Nat)(n:au)(S:List Wd×dq)(M:aO)(ps:List Wd)(m pc:Nat)(pa:ar)(w:ag)(z:je base d n S M w)(E:base<=w.heap.size)(C:S.1.length<=100000)(I:ps.length=m)(D:m<=1000)(u:∀w1,ch M w w1->fC w1 ps pa):ao 148 #[.pointer (some ⟨d,1,none⟩),ae pa m pc] w λe w'=>e=.returned (.agg #[ab 4,ab S.1.length])/\Hid (xL base d n (S.1++(0,(m:Int))::ps,S.2) M w w'):=by
 obtain⟨q,p,s,a,f,g,A,h,i,B⟩:=z;obtain⟨⟨R,v,T⟩,F⟩:=a.cells;obtain⟨j,l,K⟩:∃j l,q=ae j S.1.length l:=by
  rcases f.2 with⟨e,y⟩|⟨V,c,U,e,_⟩
  ·exact⟨none,0,by rw[e,y]⟩
  ·exact⟨_,c,e⟩
 subst I;refine(A3 base d 1 q j l S.1.length S.1 ps ps.length pc pa w K rfl rfl C D E v (F 1) a.lt (Lw f a (by decide)) f ?_).mono ?_
 ·intro w1 k;refine u w1 (k.mono ?_);rintro b (rfl|e)
  ·exact h
  ·exact i b e
 ·rintro e w' ⟨rfl,r,t⟩;obtain⟨O,P,o,Q⟩:=t;refine⟨rfl,⟨r,p,s,(a.set1 r).kept P,?_,?_,A,aj h,?_,aj B⟩,o.mono ?_⟩
  ·have e:(S.1++(0,(ps.length:Int))::ps).length=S.1.length+1+ps.length:=by simp;omega
   rw[e];exact O
  ·have H:=g.lt;have L:=vZ g a;have N:=CG f g;obtain⟨es,x,G,J⟩:=g;refine⟨es,x,(o.block p H ?_).trans G,J⟩;rintro (e|e)
   ·exact L e
   ·exact N e
  ·intro b e;rcases Q b e with e|e
   ·exact aj (i b e)
   ·exact ak e
  ·rintro b (rfl|e)
   ·exact h
   ·exact i b e
theorem NG{base e:Nat}{h:Value}{S:List Wd×dq}{M:Nat->Prop}{w:World}(m:je base e h S M w)(p q:Nat)(A:p<=100000)(B:q<=100000)(z:S.2.length<=100000):∃a,w.cell? ⟨e,2,none⟩=some (.map (some a))/\∃w4,(Instr.mapUpdate 204 (.map (some a)) (.int .i64 p) (.int .i64 q)).run Tryz.prog w=.ok () w4/\je base e h (S.1,(p,q)::S.2) M w4/\ch (λb=>b=a) w w4/\M a/\a<w.heap.size/\w4.cell? ⟨e,2,none⟩=some (.map (some a)):=by
 obtain⟨x,a,y,d,i,f,o,r,s,j⟩:=m;obtain⟨w4,v,u,t⟩:=f.update Ec underlying204 (by unfold maxLen;omega) (keyOf_int_mk underlying3 (iZ (n:=(p:Int)) (by omega))) (plainElem_int underlying3 (iZ (n:=(q:Int)) (by omega)));have k:=Ef t;have g:ch (λb=>b=a) w w4:=k.mono λb c=>(az c).symm;refine⟨a,d.cells.1.2.2,w4,v,⟨x,a,_,d.kept (g.block e d.lt (λc=>vZ f d c.symm)),eE i g ?_,u,Ml f o p q,r,s,j⟩,g,j,f.lt,(d.kept (g.block e d.lt (λc=>vZ f d c.symm))).cells.1.2.2⟩;intro b c l;subst l;exact CG i f c
theorem DS(w:World)(a b:Int):(Instr.field 109 (.agg #[.int .i64 a,.int .i64 b]) 1).run Tryz.prog w=.ok (.int .i64 b) w:=by kernel_rfl
theorem NE(base a:Nat)(H:Value)(S:List Wd×dq)(M:Nat->Prop)(p q f L h n:Nat)(w:World)(u:World->Prop)(I:Hid (je base a H S M w))(U:H=.slice (some ⟨f,0,none⟩) L h)(W:Hid (look S.2 p=none))(ar:p<=100000)(z:Hid (∀b,Below w.heap.size w b->w.heap.size+2<=b.heap.size->Calls Tryz.prog 178 #[.slice (some ⟨f,0,none⟩) L h,.int .i64 p] b λe w'=>w'=b/\∃o pc,e=.returned (.slice (some ⟨f,o,none⟩) n pc)/\ Hid (Calls Tryz.prog 114 #[.pointer (some ⟨a,0,none⟩),.slice (some ⟨f,o,none⟩) n pc] b λe w2=>∃g,e=.returned (.slice (some ⟨g,0,none⟩) n n)/\ Hid ((∀j,w2.cell? ⟨w.heap.size,j,none⟩=b.cell? ⟨w.heap.size,j,none⟩)/\w2.cell? ⟨a,0,none⟩=some (.slice (some ⟨f,0,none⟩) L h)/\ Calls Tryz.prog 148 #[.pointer (some ⟨a,1,none⟩),.slice (some ⟨g,0,none⟩) n n] w2 λe k=>e=.returned (.agg #[.int .i64 4,.int .i64 q])/\ Hid ((∀j,k.cell? ⟨w.heap.size,j,none⟩=b.cell? ⟨w.heap.size,j,none⟩)/\k.cell? ⟨a,0,none⟩=some (.slice (some ⟨f,0,none⟩) L h)/\ ∃d w4,k.cell? ⟨a,2,none⟩=some (.map (some d))/\(Instr.mapUpdate 204 (.map (some d)) (.int .i64 p) (.int .i64 q)).run Tryz.prog k.drew=.ok () w4/\(∀j,w4.cell? ⟨w.heap.size,j,none⟩=b.cell? ⟨w.heap.size,j,none⟩)/\w4.cell? ⟨a,2,none⟩=some (.map (some d))/\ (A0 (w.heap.size+1) b->A0 (w.heap.size+1) w4)/\∀v0 v1,u ((w4.setCell ⟨w.heap.size+1,0,none⟩ v0).setCell ⟨w.heap.size+1,1,none⟩ v1)))))):Calls Tryz.prog 151 #[.pointer (some ⟨a,0,none⟩),.agg #[.int .i64 4,.int .i64 p]] w λe w'=>e=.returned (.agg #[.int .i64 4,.int .i64 q])/\u w':=by
 subst U;go_enter func151,ntmps151;go_wp2_with fail;generalize t:(w.alloc (Obj.cells #[Value.int IntKind.i64 4,Value.int IntKind.i64 p] 109)).alloc (Obj.cells #[.int .i64 0,.int .i64 0] 109)=wA;have l:Hid (Below w.heap.size w wA.drew/\wA.drew.heap.size=w.heap.size+2):=by
  subst t;exact⟨(((aA _ _).alloc (av _) _).alloc (by simp) _).drew,by simp[World.drew]⟩
 have G:wA.cell? ⟨w.heap.size,1,none⟩=some (.int .i64 p):=by subst t;simp[go_sem]
 have C:Hid (A0 (w.heap.size+1) wA.drew):=by
  subst t;have:=aD (w.alloc (Obj.cells #[Value.int IntKind.i64 4,Value.int IntKind.i64 p] 109)) (Obj.cells #[.int .i64 0,.int .i64 0] 109);have es:∀o,(w.alloc o).heap.size=w.heap.size+1:=λo=>by simp
  rw[es]at this;exact this
 obtain⟨d,F,E,P,X⟩:∃d,∃F:Int,wA.cell? ⟨a,0,none⟩=some (.slice (some ⟨f,0,none⟩) L h)/\wA.cell? ⟨a,2,none⟩=some (.map (some d))/\(Instr.lookup 204 (.map (some d)) (.int .i64 p) true).run Tryz.prog wA.drew=.ok (.tuple #[.int .i64 F,.bool false]) wA.drew:=by
  obtain⟨au,d,x,J,ao,Q,R,_⟩:=I.out.later l.1;obtain⟨v,ps,K,Z⟩:=Q.look_ok Ec underlying204 (sI _) (plainElem_int underlying3 (iZ (by omega))) (keyOf_int_mk underlying3 (iZ (n:=(p:Int)) (by omega)));obtain⟨c,rfl,aq,_⟩:=plainElem_int_inv underlying3 Z;have V:Maps.has x (.int .i64 p)=false:=by
   cases hx:Maps.has x (.int .i64 p)
   ·rfl
   ·have:=(R p).1.1 hx;rw[W.out]at this;simp at this
  rw[V]at K;exact⟨d,c,J.cells.1.1,J.cells.1.2.2,K⟩
 clear t I;go_region_held3 (λw'=>w'.cell? ⟨w.heap.size,1,none⟩=some (.int .i64 p)/\w'.cell? ⟨a,2,none⟩=some (.map (some d))) (go_keep) (fail);have s:wA.drew.cell? ⟨w.heap.size,1,none⟩=some (.int .i64 p):=G;have O:wA.drew.cell? ⟨a,0,none⟩=some (.slice (some ⟨f,0,none⟩) L h):=E;clear X G E P;generalize wA.drew=b at*;have B:=ap (z b.drew l.1.drew (by have:=l.2;show w.heap.size+2<=b.heap.size;omega));clear z;have T:=DS;go_wp2_with fail
 go_region_held3 (λw'=>w'.cell? ⟨w.heap.size,1,none⟩=some (.int .i64 p)/\w'.cell? ⟨a,0,none⟩=some (.slice (some ⟨f,0,none⟩) L h)) (go_keep) ((first
  | (go_at_call 178;refine B.mono ?_;rintro e w2 ⟨rfl,o,pc,rfl,y⟩;clear B)
  | (go_at_call 114;refine y.mono ?_;rintro e w2 ⟨g,rfl,m⟩;have ak:=(m.1 1).trans s;have al:=m.2.1;clear y)
  | (go_at_call 148;refine m.2.2.mono ?_;rintro e k ⟨rfl,r⟩;have y1:=(r.1 1).trans s;have y2:=r.2.1;clear m)))
 obtain⟨i,w4,aj,Y,D,an,A,N⟩:∃i w4,k.cell? ⟨a,2,none⟩=some (.map (some i))/\(Instr.mapUpdate 204 (.map (some i)) (.int .i64 p) (.int .i64 q)).run Tryz.prog k.drew=.ok () w4/\Hid (∀j,w4.cell? ⟨w.heap.size,j,none⟩=b.drew.cell? ⟨w.heap.size,j,none⟩)/\w4.cell? ⟨a,2,none⟩=some (.map (some i))/\Hid (A0 (w.heap.size+1) w4)/\Hid (∀v0 v1,u ((w4.setCell ⟨w.heap.size+1,0,none⟩ v0).setCell ⟨w.heap.size+1,1,none⟩ v1)):=by
  obtain⟨i,w4,aa,ab,ad,ae,af,ag⟩:=r.out.2.2;exact⟨i,w4,aa,ab,ad,ae,af C,ag⟩
 have am:=(D 1).trans s;obtain⟨⟨ah,ai⟩,f0,f1⟩:=A.out.facts;clear r D A C l ak al y2 O s T;go_wp2_with fail;go_region_held3 (λw'=>w'.cell? ⟨w.heap.size,1,none⟩=some (.int .i64 p)/\w'.cell? ⟨a,2,none⟩=some (.map (some i))) (go_keep) (fail);clear Y aj y1 am an;go_wp2_with fail;exact ay (v:=.agg #[.int .i64 4,.int .i64 q]) (by simp[results,results151,go_sem,ah,ai]) rfl ⟨rfl,N _ _⟩
def cM(ws:List Wd)(p n:Nat):List Wd:=(ws.drop (p+1)).take n
theorem EC{ws:List Wd}{p n i:Nat}(a:i<n):(cM ws p n)[i]?=ws[p+1+i]? :=by
 unfold cM;rw[tA a,lm]
theorem lU{ws:List Wd}{p n:Nat}(a:p+1+n<=ws.length):(cM ws p n).length=n:=by
 unfold cM;rw[dK,fw];omega
def ic(ws:List Wd)(nm:br)(n:Nat)(l:List Wd)(p:List (Tm n)):Prop:=l.length=p.length/\∀(i:Nat)(v:Wd)(y:Tm n),l[i]?=some v->p[i]?=some y->ei ws nm n y v
theorem vu{ws:List Wd}{n:Nat}{v:Wd}{S:List Wd×dq}(a:v.1≠4):j8 ws n v S=(v,S):=by
 cases n with
 | zero=>rfl
 | succ n=>simp[j8,a]
theorem FJ{ws:List Wd}{n p q:Nat}{S:List Wd×dq}(a:look S.2 p=some q):j8 ws (n+1) (4,(p:Int)) S=((4,(q:Int)),S):=by
 simp[j8,a]
theorem zM{ws:List Wd}{n p m:Nat}{S:List Wd×dq}(a:look S.2 p=none)(b:ws[p]?=some (0,(m:Int))):j8 ws (n+1) (4,(p:Int)) S= ((4,((im (j8 ws n) (cM ws p m) S).2.1.length:Int)),(im (j8 ws n) (cM ws p m) S).2.1++(0,(m:Int))::(im (j8 ws n) (cM ws p m) S).1,(p,(im (j8 ws n) (cM ws p m) S).2.1.length)::(im (j8 ws n) (cM ws p m) S).2.2):=by
 simp[j8,a,b,cM]
theorem pi{ws:List Wd}{nm:br}{n:Nat}(ih:∀(x:Tm n)(v:Wd)(S:List Wd×dq),ei ws nm n x v->((j8 ws n v S).2.1.length:Int)<=S.1.length+sz n x/\(j8 ws n v S).2.2.length<=S.2.length+(aC n x).length):(l:List Wd)->(p:List (Tm n))->(S:List Wd×dq)->ic ws nm n l p->((im (j8 ws n) l S).2.1.length:Int)+p.length<=S.1.length+(p.map λy=>1+sz n y).sum/\(im (j8 ws n) l S).2.2.length<=S.2.length+(p.flatMap λy=>aC n y).length
 | [],[],S,_=>by simp[im]
 | [],_::_,_,h=>by have:=h.1;simp at this
 | _::_,[],_,h=>by have:=h.1;simp at this
 | v::l,y::p,S,h=>by
  obtain⟨e,f⟩:=ih y v S (h.2 0 v y rfl rfl);obtain⟨g,j⟩:=pi ih l p (j8 ws n v S).2 ⟨by have:=h.1;simpa using this,λi c d a b=>h.2 (i+1) c d (by simpa using a) (by simpa using b)⟩;simp only[im,aV,bR,bP,bz,bA];exact⟨by omega,by omega⟩
theorem jX{ws:List Wd}{nm:br}{n:Nat}{x:Tm (n+1)}{v:Wd}(i:ei ws nm (n+1) x v)(j:x.1.1=4):∃p:Nat,v=(4,(p:Int))/\ws[p]?=some (0,(x.2.2.length:Int))/\p+1+x.2.2.length<=ws.length/\ic ws nm n (cM ws p x.2.2.length) x.2.2:=by
 obtain⟨p,d,e,a,f⟩:=i.2.1 j;refine⟨p,d,e,a,lU a,λk o l b c=>?_⟩;obtain⟨m,g,h⟩:=f k l c;rw[EC (aZ.1 c).1,g]at b;obtain rfl:=az b;exact h
theorem jo{ws:List Wd}{nm:br}{n:Nat}{x:Tm (n+1)}{v:Wd}(a:ei ws nm (n+1) x v)(c:x.1.1≠4):v.1≠4:=by
 by_cases b:x.1.1=2
 ·obtain⟨d,rfl,_⟩:=a.1 b;simp
 ·rw[a.2.2 b c];exact c
theorem sV{ws:List Wd}{nm:br}:(n:Nat)->(x:Tm n)->(v:Wd)->(S:List Wd×dq)->ei ws nm n x v->((j8 ws n v S).2.1.length:Int)<=S.1.length+sz n x/\(j8 ws n v S).2.2.length<=S.2.length+(aC n x).length
 | 0,_,_,_,h=>h.elim
 | n+1,x,v,S,h=>by
  have k:=(ft (n+1) x).1;by_cases c:x.1.1=4
  ·obtain⟨p,rfl,g,f,i⟩:=jX h c;cases hk:look S.2 p with
   | some q=>
    rw[FJ hk];exact⟨by simp only;omega,by simp only;omega⟩
   | none=>
    rw[zM hk g];obtain⟨a,b⟩:=pi (λx v S d=>sV n x v S d) (cM ws p x.2.2.length) x.2.2 S i;have e:=qD (j8 ws n) (cM ws p x.2.2.length) S;rw[lU f]at e;have j:(aC (n+1) x).length=1+(x.2.2.flatMap λy=>aC n y).length:=by simp[aC];omega
    simp only[bz,bA,e,sz,if_pos c,j];exact⟨by omega,by omega⟩
  ·rw[vu (jo h c)];exact⟨by simp only;omega,by simp only;omega⟩
def OL(ws:List Wd)(nm:br)(n:Nat):Prop:=∀(x:Tm n)(v:Wd)(base c d:Nat)(a:au)(S:List Wd×dq)(M:aO)(w:ag),je base c a S M w->w.ownsRow d 109 2 a ws.length (bq ws)->(∀b,a.ownBlock=some b->¬M b)->base<=w.heap.size->ei ws nm n x v->aJ ⟨n,x⟩->ws.length<=100000->(S.1.length:Int)+sz n x<=90000->S.2.length+(aC n x).length<=90000->
 ao 151 #[aH c,JE v] w λe w'=>e=.returned (JE (j8 ws n v S).1)/\Hid (xL base c a (j8 ws n v S).2 M w w')
theorem N0(n:Nat)(p:List (Tm n))(k:Nat)(x:Tm n)(d:p[k]?=some x):((p.take k).map λy=>1+sz n y).sum+(1+sz n x)<=(p.map λy=>1+sz n y).sum:=by
 obtain⟨c,rfl⟩:=aZ.1 d;have a:p=p.take k++p[k]::p.drop (k+1):=by
  rw[<-eX c,iA]
 have b:∀l:List (Tm n),0<=(l.map λy=>1+sz n y).sum:=by
  intro l
  induction l with
  | nil=>simp
  | cons y l ih=>
   have:=(ft n y).1;simp only[aV,bR];omega
 have e:=b (p.drop (k+1))
 conv=>rhs;rw[a]
 simp only[gV,List.sum_append,aV,bR];omega
theorem ic.take{ws:List Wd}{nm:br}{n:Nat}{l:List Wd}{p:List (Tm n)}(c:ic ws nm n l p)(k:Nat):ic ws nm n (l.take k) (p.take k):=by
 refine⟨by simp[c.1],λe f g a b=>?_⟩;rw[jG]at a b;split at a
 ·rename_i d;rw[if_pos d]at b;exact c.2 e f g a b
 ·cases a
theorem tG(ws:List Wd)(nm:br)(n:Nat)(ih:OL ws nm n)(vs:List Wd)(p:List (Tm n))(base d l:Nat)(c:au)(S:List Wd×dq)(M:aO)(a:ar)(pc:Nat)(w:ag)(u:je base d c S M w)(r:w.ownsRow l 109 2 c ws.length (bq ws))(m:∀b,c.ownBlock=some b->¬M b)(I:base<=w.heap.size)(j:ic ws nm n vs p)(F:∀y∈p,aJ ⟨n,y⟩)(G:ws.length<=100000)(D:vs.length<=100000)(L:(S.1.length:Int)+(p.map λy=>1+sz n y).sum<=90000)(J:S.2.length+(p.flatMap λy=>aC n y).length<=90000)(B:fk w vs a)(E:∀b o,a=some ⟨b,o,none⟩->¬M b):ao 114 #[aH d,ae a vs.length pc] w λe w'=>∃g,e=.returned (ae (some ⟨g,0,none⟩) vs.length vs.length)/\Hid (Dy (j8 ws n) vs base d c S M g w w'):=by
 refine zK (j8 ws n) vs base d c S M a vs.length pc w rfl D u B E ?_;intro k i s t H z q v;have C:=(aZ.1 s).1;obtain⟨y,h⟩:∃y,p[k]?=some y:=⟨p[k]'(by rw[<-j.1];exact C),aN _⟩;obtain⟨P,Q⟩:=pi (λx i S A=>sV n x i S A) (vs.take k) (p.take k) S (j.take k);have N:=N0 n p k y h;have O:=BX n p k y h;have K:=q.size;refine ih y i base d l c _ t H z (eE r q λb e=>m b e) ?_ (by omega) (j.2 k i y s h) (F y (aL h)) G (by omega) (by omega);intro b e f;rcases v b f with f|f
 ·exact m b e f
 ·have:=(r.lt b e).2;omega
theorem vp{base b:Nat}{c:au}{S:List Wd×dq}{M:aO}{w w':ag}(a:je base b c S M w)(d:am w w'):xL base b c S M w w':=
 ⟨(a.later d).mono λ_ a=>aj a.1,bu d M⟩
theorem NH(ws:List Wd)(nm:br)(n:Nat)(ih:OL ws nm n)(ps:List (Tm n))(p:Nat)(base i t:Nat)(l:au)(S:List Wd×dq)(M:aO)(w:ag)(c:je base i l S M w)(G:w.ownsRow t 109 2 l ws.length (bq ws))(Q:∀b,l.ownBlock=some b->¬M b)(aW:base<=w.heap.size)(aF:ws[p]?=some (0,(ps.length:Int)))(T:p+1+ps.length<=ws.length)(V:ic ws nm n (cM ws p ps.length) ps)(aG:∀y∈ps,aJ ⟨n,y⟩)(aU:ps.length<=8)(W:ws.length<=100000)(aK:(S.1.length:Int)+(ps.map λy=>1+sz n y).sum<=90000)(aE:S.2.length+(ps.flatMap λy=>aC n y).length<=90000)(aB:look S.2 p=none):ao 151 #[aH i,JE (4,(p:Int))] w λe w'=>e=.returned (JE (4,((im (j8 ws n) (cM ws p ps.length) S).2.1.length:Int)))/\ Hid (xL base i l ((im (j8 ws n) (cM ws p ps.length) S).2.1++(0,(ps.length:Int))::(im (j8 ws n) (cM ws p ps.length) S).1,(p,(im (j8 ws n) (cM ws p ps.length) S).2.1.length)::(im (j8 ws n) (cM ws p ps.length) S).2.2) M w w'):=by
 obtain⟨d,u,R,_,_⟩:=G.form (by omega);have F:=lU T;obtain⟨a2,a3⟩:=pi (λx aN S ar=>sV n x aN S ar) (cM ws p ps.length) ps S V;refine NE base i l S M p _ d ws.length u ps.length w _ c R aB (by omega) ?_;intro Z j aV;subst R;have aX:=(G.lt d rfl).2;have U:Z.ownsRow t 109 2 (ae (some ⟨d,0,none⟩) ws.length u) ws.length (bq ws):=ez G j;refine(yy t d ws.length u p ps.length ws Z W U aF T).mono ?_;rintro e w' ⟨rfl,pa,pc,rfl,_,aI,o,rfl⟩;refine⟨rfl,o,pc,rfl,?_⟩;have aw:fk w' (cM ws p ps.length) (some ⟨d,o,none⟩):=Dn aI (by have:=j.size;omega);have P:=tG ws nm n ih (cM ws p ps.length) ps base i t (ae (some ⟨d,0,none⟩) ws.length u) S _ (some ⟨d,o,none⟩) pc w' (c.later j) U (λb e a=>Q b e a.1) (by have:=j.size;omega) V aG W (by omega) aK aE aw (λb a1 e a=>Q b (by injection e with e;injection e with e;subst e;rfl) a.1);rw[F]at P;refine P.mono ?_;rintro e aQ ⟨g,rfl,ad⟩;obtain⟨B,H,s,af,ah,aR,I⟩:=ad;rw[F]at I;have v:∀b,B b->(M b/\b<w.heap.size)\/w'.heap.size<=b:=af;have aY:=s.size;refine⟨g,rfl,λm=>bH (s.block _ (by omega) (λa=>by omega)) m,?_,?_⟩
 ·obtain⟨aM,z,aa,q,_⟩:=H;exact q.cells.1.1
 refine(QL base i _ _ B (im (j8 ws n) (cM ws p ps.length) S).1 ps.length ps.length (some ⟨g,0,none⟩) aQ H (by have:=j.size;omega) (by omega) (by rw[qD];exact F) (by omega) ?_).mono ?_
 ·intro a4 ay;exact ak ⟨_,rfl,(eE I ay (λb e=>by simp only[Value.ownBlock]at e;obtain rfl:=az e;exact ah)).cells (g:=g) rfl⟩
 rintro e r ⟨rfl,ab⟩;obtain⟨J,C⟩:=ab;have aZ:=C.size;have E:∀b,w.heap.size<=b->b<w.heap.size+2->¬B b:=λb f h a=>by
  rcases v b a with k|k<;>omega
 have N:∀b,w.heap.size<=b->b<w.heap.size+2->r.heap[b]?=w'.heap[b]? :=λb f h=>(C.block b (by omega) (E b f h)).trans (s.block b (by omega) (λa=>by omega));refine⟨rfl,λm=>bH (N _ (av _) (by omega)) m,?_,?_⟩
 ·obtain⟨aM,z,aa,q,_⟩:=J;exact q.cells.1.1
 have bd:am r r.drew:=(aA _ _).drew;have ai:=J.kept (bu bd (λ_=>False)) (λ_ _ _ c=>c);obtain⟨z,al,A,an,ap,D,K,aS,aq⟩:=NG ai p (im (j8 ws n) (cM ws p ps.length) S).2.1.length (by omega) (by omega) (by simp only;omega);have aD:∀b,w.heap.size<=b->b<w.heap.size+2->b≠z:=λb f h e=>by
  subst e;rcases K with k|k
  ·exact E _ f h k
  ·omega
 have a0:=D.size;have aT:r.drew.heap.size=r.heap.size:=rfl;have O:∀b,w.heap.size<=b->b<w.heap.size+2->A.heap[b]?=w'.heap[b]? :=λb f h=>(D.block b (by omega) (aD b f h)).trans (N b f h);refine⟨z,A,al,an,λm=>bH (O _ (av _) (by omega)) m,aq,λax=>(O _ (by omega) (by omega)).trans ax,λY aP=>?_⟩;have q:=bF A (w.heap.size+1) 0 Y;have aL:=bF (A.setCell ⟨w.heap.size+1,0,none⟩ Y) (w.heap.size+1) 1 aP;have X:=q.trans aL (λb _ c=>c);refine⟨(ap.kept X ?_).mono ?_,?_⟩
 ·rintro b (a|a) _ rfl
  ·exact E _ (by omega) (by omega) a
  ·omega
 ·rintro b (a|a)
  ·rcases v b a with k|k
   ·exact aj k.1
   ·exact ak (by omega)
  ·exact ak (by omega)
 ·refine(((((bu j M).trans s ?_).trans C ?_).trans (bu bd (λ_=>False)) ?_).trans D ?_).trans X ?_
  ·exact λb _ a=>a.1
  ·intro b L a;rcases v b a with k|k
   ·exact k.1
   ·omega
  ·exact λ_ _ c=>c.elim
  ·rintro b L rfl;rcases K with k|k
   ·rcases v _ k with k|k
    ·exact k.1
    ·omega
   ·omega
  ·intro b L c;omega
theorem ND(ws:List Wd)(nm:br)(n:Nat):OL ws nm n:=by
 induction n with
 | zero=>intro x m h c o i b g f _ _ _ _ e;exact e.elim
 | succ n ih=>
  intro x m h c o i b g f d z u t e r B G F;have v:=r (bO n x) (by simp[aC,bO]);have y:x.2.2.length<=8:=mW (bO n x) v;have H:(aC (n+1) x).length=1+(x.2.2.flatMap λa=>aC n a).length:=by simp[aC];omega
  by_cases j:x.1.1=4
  ·obtain⟨l,rfl,q,w,A⟩:=jX e j;cases hk:look b.2 l with
   | some D=>
    rw[FJ hk];refine(NF h c i b g l D f d hk (by omega)).mono ?_;rintro p E ⟨rfl,k⟩;exact⟨rfl,vp d k⟩
   | none=>
    rw[zM hk q];have p:sz (n+1) x=1+(x.2.2.map λa=>1+sz n a).sum:=by simp only[sz,if_pos j]
    exact NH ws nm n ih x.2.2 l h c o i b g f d z u t q w A (λa C=>bj n x a r C) y B (by omega) (by omega) hk
  ·have s:=jo e j;rw[vu s];refine(Lc c m.1 m.2 f s).mono ?_;rintro p E ⟨rfl,k⟩;exact⟨rfl,vp d k⟩
theorem MZ(w:ag)(a:au):je w.heap.size (w.heap.size+1) a ([],[]) (λb=>w.heap.size<=b) ((w.alloc (.map #[] 0)).alloc (.cells #[a,ae none 0 0,.map (some w.heap.size)] 206)):=by
 have e:=nI w Tryz.prog 3 (plainElem (H:=Unit) Tryz.prog 3);have es:∀o,(w.alloc o).heap.size=w.heap.size+1:=λo=>by simp
 have c:=aD (w.alloc (.map #[] 0)) (.cells #[a,ae none 0 0,.map (some w.heap.size)] 206);rw[es]at c;exact⟨ae none 0 0,w.heap.size,.map [],c,eZ _ _ _ _,e.alloc _,Mk,by omega,λb d=>by simp[Value.ownBlock]at d,av _⟩
def lF(R:List Wd×List Wd×dq)(len g:Nat)(tv:au)(w w':ag):Prop:=
 am w w'/\w'.ownsRow w.heap.size 109 2 tv R.2.1.length (bq R.2.1)/\w'.ownsRow g 109 2 (ae (some ⟨g,0,none⟩) len len) len (bq R.1)/\w.heap.size<=g/\tv.ownBlock≠some g
theorem Av(R:List Wd×List Wd×dq)(c:au)(d:ar)(L f:Nat)(a:ar)(len pc:Nat)(w:ag)(i:c=ae d L f)(b:Hid (ao 114 #[.pointer (some ⟨w.heap.size+1,0,none⟩),ae a len pc] ((w.alloc (.map #[] 0)).alloc (.cells #[ae d L f,ae none 0 0,.map (some w.heap.size)] 206)) λe w'=>∃g tv,e=.returned (ae (some ⟨g,0,none⟩) len len)/\w'.cell? ⟨w.heap.size+1,1,none⟩=some tv/\Hid (lF R len g tv w w'))):ao 75 #[c,ae a len pc] w λe w'=>∃g tv,e=.returned (.tuple #[tv,ae (some ⟨g,0,none⟩) len len])/\Hid (lF R len g tv w w'):=by
 subst i;have j:= @lC Tryz.prog;go_enter func75,ntmps75;go_wp2_with fail;refine b.mono ?_;rintro e l ⟨g,tv,rfl,k,h⟩;clear b j;go_wp2_with fail;exact ay (v:=.tuple #[tv,ae (some ⟨g,0,none⟩) len len]) (by simp[results,results75,go_sem]) rfl ⟨g,tv,rfl,h⟩
theorem CA(ws:List Wd)(nm:br)(n:Nat)(vs:List Wd)(p:List (Tm n))(q:Nat)(d:au)(a:ar)(pc:Nat)(w:ag)(k:w.ownsRow q 109 2 d ws.length (bq ws))(G:ic ws nm n vs p)(F:∀y∈p,aJ ⟨n,y⟩)(H:ws.length<=100000)(B:vs.length<=100000)(I:(p.map λy=>1+sz n y).sum<=90000)(D:(p.flatMap λy=>aC n y).length<=90000)(h:fk w vs a)(E:∀b o,a=some ⟨b,o,none⟩->b<w.heap.size):ao 75 #[d,ae a vs.length pc] w λe w'=>∃g tv,e=.returned (.tuple #[tv,ae (some ⟨g,0,none⟩) vs.length vs.length])/\Hid (lF (im (j8 ws n) vs ([],[])) vs.length g tv w w'):=by
 obtain⟨l,m,r⟩:∃l m,d=ae l ws.length m:=by
  rcases k.2 with⟨e,x⟩|⟨g,c,R,e,_⟩
  ·exact⟨none,0,by rw[e,x]⟩
  ·exact⟨_,c,e⟩
 refine Av _ d l ws.length m a vs.length pc w r ?_;have f:am w ((w.alloc (.map #[] 0)).alloc (.cells #[d,ae none 0 0,.map (some w.heap.size)] 206)):=(aS _ _).alloc (by simp) _;have z:=MZ w d;have S:((w.alloc (.map #[] 0)).alloc (.cells #[d,ae none 0 0,.map (some w.heap.size)] 206)).heap.size=w.heap.size+2:=by simp
 rw[<-r];generalize (w.alloc (.map #[] 0)).alloc (.cells #[d,ae none 0 0,.map (some w.heap.size)] 206)=wA at*;have A:fk wA vs a:=by
  rcases h with h|⟨b,o,e,j,h⟩
  ·exact aj h
  ·exact ak ⟨b,o,e,by omega,λt u s=>⟨(aw f b _ j).trans (h t u s).1,(aw f b _ j).trans (h t u s).2⟩⟩
 refine(tG ws nm n (ND ws nm n) vs p w.heap.size (w.heap.size+1) q d ([],[]) _ a pc wA z (ez k f) (λb e C=>by have:=(k.lt b e).2;omega) (by omega) G F H B (by simpa using I) (by simpa using D) A ?_).mono ?_
 ·intro b o e C;have:=E b o e;omega
 ·rintro e w' ⟨g,rfl,v⟩;obtain⟨Q,M,i,X,N,Y,O⟩:=v;obtain⟨tv,Z,P,J,K,T,U,V,L,W⟩:=M;refine⟨g,tv,rfl,J.cells.1.2.1,⟨?_,?_,?_,?_,?_⟩,K,O,by omega,λe=>N (L g e)⟩
  ·exact i.os.trans f.os
  ·exact i.tape.trans f.tape
  ·exact i.output.trans f.output
  ·have:=i.size;omega
  ·intro b j;exact(i.block b (by omega) (by omega)).trans (f.block b j)
theorem Br{base:Nat}{c:cN}{room:Int}{ws:List Wd}{nm:br}{M:aO}{R:List Wd×List Wd×dq}{len g:Nat}{tv:au}{w w1 w2:ag}(n:eh base c room ws nm M w)(i:am w w1)(r:lF R len g tv w1 w2)(z:base<=w.heap.size):mN base c room R.2.1 nm M w (w2.setCell ⟨c.b,c.o+1,none⟩ tv):=by
 obtain⟨v,l,A,B,C⟩:=r;have s:=i.size;have j:=i.trans (v.mono s);obtain⟨D,t,u,e,x,f,h,y,p,q⟩:=n.later j;have k:=bF w2 c.b (c.o+1) tv;have m:∀b,tv.ownBlock=some b->w1.heap.size<=b:=λb a=>(l.lt b a).1;refine⟨⟨tv,t,u,e.set1 tv,eE (sk l (by omega)) k (λb a d=>?_),f.kept k (λb a d=>?_) (λb a d=>?_),aj h.1,λb a=>ak (by have:=m b a;omega),λb a=>aj (p b a).1,λb a=>aj (q b a).1⟩,(bu j M).trans k ?_⟩
 ·subst d;have:=m _ a;have:=h.2;omega
 ·subst d;exact nZ f.1 e (by decide) a
 ·subst d;exact uI f e a
 ·rintro b _ rfl;exact h.1
theorem zI(R:List Wd×List Wd×dq)(d:cN)(n:ar)(L q:Nat)(a:ar)(len pc:Nat)(w:ag)(j:d.b<w.heap.size)(i:ai w d.b (d.o+1) (ae n L q))(f1:w.frozen? ⟨d.b,d.o+1,none⟩=false)(k:Hid (ao 74 #[.pointer (some ⟨d.b,d.o,none⟩),ae a len pc] w λe w'=>e=.returned (.bool true)/\am w w'))(l:Hid (∀w1,am w w1->ao 75 #[ae n L q,ae a len pc] w1 λe w'=>∃g tv,e=.returned (.tuple #[tv,ae (some ⟨g,0,none⟩) len len])/\Hid (lF R len g tv w1 w'))):ao 44 #[.pointer (some ⟨d.b,d.o,none⟩),ae a len pc] w λe w'=>∃g tv w1 w2,e=.returned (.tuple #[ae (some ⟨g,0,none⟩) len len,ab 0])/\w'=w2.setCell ⟨d.b,d.o+1,none⟩ tv/\Hid (am w w1/\lF R len g tv w1 w2):=by
 go_enter func44,ntmps44;go_wp2_with fail;refine k.mono ?_;rintro e w1 ⟨rfl,f⟩;have HB:=ap f;replace i:=(aw f d.b (d.o+1) j).trans i;replace f1:=(ig f d.b (d.o+1) j).trans f1;have m:d.b<w1.heap.size:=aW j f.size;clear f k;go_wp2_with fail;refine(l w1 HB).mono ?_;rintro e w2 ⟨g,tv,rfl,h⟩;obtain⟨p,r,rfl⟩:∃p r,tv=ae p R.2.1.length r:=by
  rcases h.out.2.1.2 with⟨e,s⟩|⟨g,c,t,e,_⟩
  ·exact⟨none,0,by rw[e,s]⟩
  ·exact⟨_,c,e⟩
 replace i:=(aw h.1 d.b (d.o+1) m).trans i;replace f1:=(ig h.1 d.b (d.o+1) m).trans f1;clear l;go_wp2_with fail
 go_ret2
 exact⟨g,_,w1,w2,rfl,rfl,HB,h⟩
theorem ic.mem{ws:List Wd}{nm:br}{n:Nat}{l:List Wd}{p:List (Tm n)}(b:ic ws nm n l p){v:Wd}(e:v∈l):∃y∈p,ei ws nm n y v:=by
 obtain⟨a,c⟩:=dp e;have d:a<p.length:=by rw[<-b.1];exact(aZ.1 c).1
 exact⟨p[a],iv _,b.2 a v p[a] c (aN d)⟩
def Gz(g c:dq)(a b:Nat):Prop:=∀p,(p<a\/b<=p)->look c p=look g p
theorem IE{d a C:List Wd}{b:Wd}(k:(a++b::C) <+:d):cM d a.length C.length=C:=by
 obtain⟨c,rfl⟩:=k;unfold cM;rw[show a++b::C++c=(a++ [b])++(C++c) by simp];rw[List.drop_left' (by simp),List.take_left' rfl]
theorem Dp{w w1:ag}{vs:List Wd}{a:ar}(c:fk w vs a)(d:am w w1):fk w1 vs a:=by
 rcases c with c|⟨b,o,i,e,c⟩
 ·exact aj c
 ·exact ak ⟨b,o,i,aW e d.size,λg h f=>⟨(aw d b _ e).trans (c g h f).1,(aw d b _ e).trans (c g h f).2⟩⟩
def Fx(ws:List Wd)(nm:br)(n:Nat)(vs:List Wd)(p:List (Tm n)):Prop:=
 ic ws nm n vs p/\(∀a∈p,aJ ⟨n,a⟩)/\(∀a∈p,aT n a=true)/\(p.map λa=>1+sz n a).sum<=90000/\(p.flatMap λa=>aC n a).length<=90000/\vs.length<=1000
def kj(ws:List Wd)(n:Nat)(vs:List Wd):List Wd×List Wd×dq:=im (j8 ws n) vs ([],[])
theorem Fx.all{ws:List Wd}{nm:br}{n:Nat}{vs:List Wd}{p:List (Tm n)}(b:Fx ws nm n vs p)(g:ws.length<=1000)(f:nm.length<=50000):vs.all (dd ws nm)=true/\∀v∈vs,dN v.2:=by
 have key:∀v∈vs,dd ws nm v=true/\dN v.2:=λv a=>by
  obtain⟨d,c,e⟩:=b.1.mem a;exact C3 e (b.2.1 d c) (b.2.2.1 d c) (by omega) (by omega)
 exact⟨cJ.2 λv a=>(key v a).1,λv a=>(key v a).2⟩
def zj(base:Nat)(a:cN)(room:Int)(R:List Wd×List Wd×dq)(nm:br)(M:aO)(g:Nat)(w w':ag):Prop:=
 eh base a room R.2.1 nm (λb=>(M b\/w.heap.size<=b)/\b≠g) w'/\ch M w w'/\fk w' R.1 (some ⟨g,0,none⟩)/\w.heap.size<=g/\g<w'.heap.size/\∃len,w'.ownsRow g 109 2 (ae (some ⟨g,0,none⟩) len len) len (bq R.1)
theorem zh{w:ag}{g base len:Nat}{vs:List Wd}(a:w.ownsRow base 109 2 (ae (some ⟨g,0,none⟩) len len) len (bq vs)):fk w vs (some ⟨g,0,none⟩)/\g<w.heap.size:=by
 refine⟨ak ⟨g,0,rfl,(a.lt g rfl).2,λc d b=>?_⟩,(a.lt g rfl).2⟩;have:=jz a c d b;rw[cT];exact this
theorem Ka{base:Nat}{d:cN}{room:Int}{ws:List Wd}{nm:br}{M:aO}{R:List Wd×List Wd×dq}{len g:Nat}{tv:au}{w w1 w2:ag}(j:eh base d room ws nm M w)(h:am w w1)(p:lF R len g tv w1 w2)(t:base<=w.heap.size):zj base d room R nm M g w (w2.setCell ⟨d.b,d.o+1,none⟩ tv):=by
 have u:=Br j h p t;obtain⟨z,q,i,F,B⟩:=p;have v:=h.size;have s:=h.trans (z.mono v);obtain⟨G,x,y,e,C,f,l,D,m,n⟩:=j.later s;have k:=bF w2 d.b (d.o+1) tv;have r:∀b,tv.ownBlock=some b->w1.heap.size<=b:=λb a=>(q.lt b a).1;have E:d.b<w.heap.size:=l.2;refine⟨⟨tv,x,y,e.set1 tv,eE (sk q (by omega)) k (λb a c=>?_),f.kept k (λb a c=>?_) (λb a c=>?_),⟨aj l.1,by omega⟩,λb a=>⟨ak (by have:=r b a;omega),λc=>B (by rw[a,c])⟩,λb a=>⟨aj (m b a).1,by have:=(m b a).2;omega⟩,λb a=>⟨aj (n b a).1,by have:=(n b a).2;omega⟩⟩,u.2,?_,by omega,?_,?_⟩
 ·subst c;have:=r _ a;omega
 ·subst c;exact nZ f.1 e (by decide) a
 ·subst c;exact uI f e a
 ·have A:=eE i k (λb a c=>by
    subst c;simp only[Value.ownBlock]at a;have:=az a
    omega)
  exact(zh A).1
 ·have:=(zh i).2;simpa [World.setCell]using this
 ·exact⟨len,eE i k (λb a c=>by
    subst c;simp only[Value.ownBlock]at a;have:=az a
    omega)⟩
theorem zX(n:Nat)(p:List (Tm n))(vs:List Wd)(a:ar)(pc base:Nat)(f:cN)(room:Int)(ws:List Wd)(nm:br)(M:aO)(w:ag)(j:eh base f room ws nm M w)(d:Fx ws nm n vs p)(r:fk w vs a)(C:∀b o,a=some ⟨b,o,none⟩->b<w.heap.size)(z:base<=w.heap.size)(E:ws.length<=1000)(D:nm.length<=50000):ao 44 #[.pointer (some ⟨f.b,f.o,none⟩),ae a vs.length pc] w λe w'=>∃g,e=.returned (.tuple #[ae (some ⟨g,0,none⟩) vs.length vs.length,ab 0])/\Hid (zj base f room (kj ws n vs) nm M g w w'):=by
 obtain⟨y,B⟩:=d.all E D;obtain⟨t,P,Q,m,q,J,K,L,N,O⟩:=id j;obtain⟨⟨F,v,G,H⟩,A⟩:=m.cells;obtain⟨h,i,rfl⟩:∃h i,t=ae h ws.length i:=by
  rcases q.2 with⟨e,x⟩|⟨g,c,I,e,_⟩
  ·exact⟨none,0,by rw[e,x]⟩
  ·exact⟨_,c,e⟩
 refine(zI (kj ws n vs) f h ws.length i a vs.length pc w m.lt v (A _) ?_ ?_).mono ?_
 ·have s:=zu base f room ws nm M vs a vs.length pc w j (by omega) rfl (by have:=d.2.2.2.2.2;omega) r B;rw[y]at s;exact s
 ·intro u k;refine CA ws nm n vs p base (ae h ws.length i) a pc u (ez q k) d.1 d.2.1 (by omega) (by have:=d.2.2.2.2.2;omega) d.2.2.2.1 d.2.2.2.2.1 (Dp r k) ?_;intro b o e;exact aW (C b o e) k.size
 ·rintro e w' ⟨g,t,u,R,rfl,rfl,l⟩;exact⟨g,rfl,Ka j l.1 l.2 z⟩
def pB(ws:List Wd):Nat->Wd->List Nat
 | 0,_=> []
 | n+1,v=>if v.1=4 then
    match ws[v.2.toNat]? with
    | some a=>v.2.toNat::(cM ws v.2.toNat a.2.toNat).flatMap (pB ws n)
    | none=> []
  else []
theorem nh{ws:List Wd}{n:Nat}{v:Wd}(a:v.1≠4):pB ws n v=[]:=by
 cases n with
 | zero=>rfl
 | succ n=>simp[pB,a]
theorem sq{ws:List Wd}{n p m:Nat}(a:ws[p]?=some (0,(m:Int))):pB ws (n+1) (4,(p:Int))=p::(cM ws p m).flatMap (pB ws n):=by
 simp[pB,a]
theorem yu{nm:br}{s:aq}(a:s∈nm):fh nm s=nm:=by
 unfold fh;rw[if_pos ((Ai nm s).2 a)]
theorem Bt{ws:List Wd}{nm:br}{n:Nat}(ih:∀(x:Tm n)(v:Wd)(S:List Wd×dq),ei ws nm n x v->(pB ws n v).Nodup->(∀p∈pB ws n v,look S.2 p=none)->((j8 ws n v S).1=(bk n x S.1 nm).1/\(j8 ws n v S).2.1=(bk n x S.1 nm).2.1/\(bk n x S.1 nm).2.2=nm)/\∀p,look (j8 ws n v S).2.2 p=none ↔ look S.2 p=none/\p∉pB ws n v):(us:List Wd)->(ys:List (Tm n))->ic ws nm n us ys->(S:List Wd×dq)->(us.flatMap (pB ws n)).Nodup->(∀p∈us.flatMap (pB ws n),look S.2 p=none)-> ((im (j8 ws n) us S).1=(bV (bk n) ys S.1 nm).1/\(im (j8 ws n) us S).2.1=(bV (bk n) ys S.1 nm).2.1/\(bV (bk n) ys S.1 nm).2.2=nm)/\∀p,look (im (j8 ws n) us S).2.2 p=none ↔ look S.2 p=none/\p∉us.flatMap (pB ws n)
 | us,ys,a,S,hn,hl=>by
  induction us generalizing ys S with
  | nil=>
   obtain rfl:ys=[]:=by have:=a.1;cases ys with|nil=>rfl|cons e l=>simp at this
   simp[im,bV]
  | cons v us z=>
   cases ys with
   | nil=>have:=a.1;simp at this
   | cons d ys=>
    have r:ei ws nm n d v:=a.2 0 v d (by simp) (by simp);have w:ic ws nm n us ys:=⟨by have:=a.1;simpa using this,λy e b s t=>a.2 (y+1) e b (by simpa using s) (by simpa using t)⟩;rw[bP]at hn hl;obtain⟨A,B,C⟩:=fM.1 hn;obtain⟨⟨g,h,i⟩,f⟩:=ih d v S r A (λp c=>hl p (List.mem_append_left _ c));have u:∀p∈us.flatMap (pB ws n),look (j8 ws n v S).2.2 p=none:=λp c=>(f p).2 ⟨hl p (List.mem_append_right _ c),λq=>C p q p c rfl⟩;obtain⟨⟨j,k,m⟩,o⟩:=z ys w (j8 ws n v S).2 B u;simp only[im,bV];rw[i,<-h];refine⟨⟨by rw[g,j],k,m⟩,λp=>?_⟩;rw[o p,f p,bP,de,not_or,and_assoc]
theorem FK{ws:List Wd}{nm:br}(g:nm.Nodup):(n:Nat)->(x:Tm n)->(v:Wd)->(S:List Wd×dq)->ei ws nm n x v->(pB ws n v).Nodup->(∀p∈pB ws n v,look S.2 p=none)-> ((j8 ws n v S).1=(bk n x S.1 nm).1/\(j8 ws n v S).2.1=(bk n x S.1 nm).2.1/\(bk n x S.1 nm).2.2=nm)/\∀p,look (j8 ws n v S).2.2 p=none ↔ look S.2 p=none/\p∉pB ws n v
 | 0,_,_,_,h,_,_=>h.elim
 | n+1,x,v,S,h,hn,hl=>by
  by_cases b:x.1.1=4
  ·obtain⟨p,rfl,i,u,s⟩:=jX h b;rw[sq i]at hn hl ⊢;have o:=hl p (by simp);rw[zM o i];have r:=lq.1 hn;obtain⟨⟨k,f,l⟩,m⟩:=Bt (λx v S=>FK g n x v S) (cM ws p x.2.2.length) x.2.2 s S r.2 (λq c=>hl q (bW _ c));have e:bk (n+1) x S.1 nm=((4,((bV (bk n) x.2.2 S.1 nm).2.1.length:Int)),(bV (bk n) x.2.2 S.1 nm).2.1++(0,(x.2.2.length:Int))::(bV (bk n) x.2.2 S.1 nm).1,(bV (bk n) x.2.2 S.1 nm).2.2):=by
    simp only[bk];rw[if_neg (by omega),if_pos b]
   rw[e];refine⟨⟨by rw[f],by rw[k,f],l⟩,λq=>?_⟩;by_cases c:q=p
   ·subst c;rw[s9];simp
   ·rw[qL _ _ c,m q];simp[c]
  ·have j:=jo h b;rw[vu j,nh j];refine⟨⟨?_,?_,?_⟩,λq=>by simp⟩
   ·simp only[bk];by_cases a:x.1.1=2
    ·rw[if_pos a];obtain⟨t,rfl,d⟩:=h.1 a;rw[yu (aL d),Cd g d]
    ·rw[if_neg a,if_neg b];exact h.2.2 a b
   ·simp only[bk];split
    ·rfl
    ·rfl
   ·simp only[bk];split
    ·rename_i a;obtain⟨t,rfl,d⟩:=h.1 a;exact yu (aL d)
    ·rfl
theorem ED{ws a:List Wd}(b:ws <+:a){p m:Nat}(c:p+1+m<=ws.length):cM a p m=cM ws p m:=by
 obtain⟨t,rfl⟩:=b;unfold cM;rw[ny (by omega),iW (by rw[fw];omega)]
theorem NM{ws b:List Wd}(c:ws <+:b){p:Nat}{v:Wd}(a:ws[p]?=some v):b[p]?=some v:=by
 obtain⟨t,rfl⟩:=c;rw[dB (aZ.1 a).1];exact a
theorem nS{c β:Type}{f g:c->List β}:{l:List c}->(∀a∈l,f a=g a)->l.flatMap f=l.flatMap g
 | [],_=>rfl
 | a::l,h=>by rw[bP,bP,h a (by simp),nS (l:=l) λb d=>h b (by simp[d])]
theorem sn{ws d:List Wd}{nm:br}(b:ws <+:d):(n:Nat)->(x:Tm n)->(v:Wd)->ei ws nm n x v->pB d n v=pB ws n v
 | 0,_,_,h=>h.elim
 | n+1,x,v,h=>by
  by_cases a:x.1.1=4
  ·obtain⟨p,rfl,c,e,f⟩:=jX h a;rw[sq c,sq (NM b c),ED b e];congr 1;refine nS λj g=>?_;obtain⟨y,_,i⟩:=f.mem g;exact sn b n y j i
  ·rw[nh (jo h a),nh (jo h a)]
theorem Am{ws:List Wd}{nm:br}:(n:Nat)->(x:Tm n)->(v:Wd)->ei ws nm n x v->∀p∈pB ws n v,p<ws.length
 | 0,_,_,h,_,_=>h.elim
 | n+1,x,v,h,q,a=>by
  by_cases b:x.1.1=4
  ·obtain⟨p,rfl,c,i,d⟩:=jX h b;rw[sq c,cY,iw]at a;rcases a with rfl|⟨g,e,a⟩
   ·omega
   ·obtain⟨y,_,f⟩:=d.mem e;exact Am n y g f q a
  ·rw[nh (jo h b)]at a;cases a
theorem vO{n:Nat}(ih:∀(x:Tm n)(ws:List Wd)(nm:br),aJ ⟨n,x⟩->(pB (bk n x ws nm).2.1 n (bk n x ws nm).1).Nodup/\∀p∈pB (bk n x ws nm).2.1 n (bk n x ws nm).1,ws.length<=p):(l:List (Tm n))->(ws:List Wd)->(nm:br)->(∀y∈l,aJ ⟨n,y⟩)->((bV (bk n) l ws nm).1.flatMap (pB (bV (bk n) l ws nm).2.1 n)).Nodup/\∀p∈(bV (bk n) l ws nm).1.flatMap (pB (bV (bk n) l ws nm).2.1 n),ws.length<=p
 | [],_,_,_=>by simp[bV]
 | y::l,ws,nm,hr=>by
  have f:=ih y ws nm (hr y (by simp));have g:=io n y ws nm (hr y (by simp));have d:=vO ih l (bk n y ws nm).2.1 (bk n y ws nm).2.2 (λo m=>hr o (by simp[m]));have c:=(rS (λx ws nm=>mX n x ws nm) l (bk n y ws nm).2.1 (bk n y ws nm).2.2).1;have k:=sn c n y _ g;have j:=Am n y _ g;have q:=(mX n y ws nm).1.length_le;simp only[bV,bP];rw[k];refine⟨fM.2 ⟨f.1,d.1,λa h b i e=>?_⟩,λp c=>?_⟩
  ·have:=j a h;have:=d.2 b i;omega
  ·rcases de.1 c with c|c
   ·exact f.2 p c
   ·have:=d.2 p c;omega
theorem Aa:(n:Nat)->(x:Tm n)->(ws:List Wd)->(nm:br)->aJ ⟨n,x⟩->(pB (bk n x ws nm).2.1 n (bk n x ws nm).1).Nodup/\∀p∈pB (bk n x ws nm).2.1 n (bk n x ws nm).1,ws.length<=p
 | 0,_,_,_,h=>(dA h).elim
 | n+1,x,ws,nm,h=>by
  by_cases q:x.1.1=4
  ·have e:bk (n+1) x ws nm=((4,((bV (bk n) x.2.2 ws nm).2.1.length:Int)),(bV (bk n) x.2.2 ws nm).2.1++(0,(x.2.2.length:Int))::(bV (bk n) x.2.2 ws nm).1,(bV (bk n) x.2.2 ws nm).2.2):=by
     simp only[bk];rw[if_neg (by omega),if_pos q]
   have r:∀o∈x.2.2,aJ ⟨n,o⟩:=λo B=>bj n x o h B;have k:=vO (λx ws nm l=>Aa n x ws nm l) x.2.2 ws nm r;have A:=(rS (λx ws nm=>mX n x ws nm) x.2.2 ws nm).1.length_le;have s:=oL (λx ws nm l=>io n x ws nm l) x.2.2 ws nm r;have v:=ip (bk n) x.2.2 ws nm;rw[e];generalize (bV (bk n) x.2.2 ws nm).2.1=c at*;generalize (bV (bk n) x.2.2 ws nm).1=d at*;generalize (bV (bk n) x.2.2 ws nm).2.2=D at*;have t:(c++(0,(x.2.2.length:Int))::d)[c.length]?=some (0,(x.2.2.length:Int)):=by simp
   have z:cM (c++(0,(x.2.2.length:Int))::d) c.length x.2.2.length=d:=by rw[<-v];exact IE (gY _)
   have y:d.flatMap (pB (c++(0,(x.2.2.length:Int))::d) n)=d.flatMap (pB c n):=nS λm j=>by
    obtain⟨i,f⟩:=dp j;have u:=(aZ.1 f).1;obtain⟨C,b,g⟩:=s i (x.2.2[i]'(by omega)) (aN _);rw[f]at b;injection b with b;subst b;exact sn (pQ _ _) n _ m g
   have w:∀p∈d.flatMap (pB c n),p<c.length:=λp a=>by
    obtain⟨m,j,a⟩:=iw.1 a;obtain⟨i,f⟩:=dp j;have u:=(aZ.1 f).1;obtain⟨C,b,g⟩:=s i (x.2.2[i]'(by omega)) (aN _);rw[f]at b;injection b with b;subst b;exact Am n _ m g p a
   simp only;rw[sq t,z,y];refine⟨lq.2 ⟨λa=>by have:=w _ a;omega,k.1⟩,λp a=>?_⟩;rcases cY.1 a with rfl|a
   ·exact A
   ·exact k.2 p a
  ·have g:=io (n+1) x ws nm h;rw[nh (jo g q)];simp
theorem BW(n:Nat):(l:List (Tm n))->(ws:List Wd)->(nm:br)->((bV (bk n) l ws nm).2.1.length:Int)=ws.length+(l.map (sz n)).sum
 | [],_,_=>by simp[bV]
 | y::l,ws,nm=>by
  have a:=(jn n y ws nm).1;have b:=BW n l (bk n y ws nm).2.1 (bk n y ws nm).2.2;simp only[bV,aV,bR];omega
theorem EM{ws:List Wd}{nm:br}(d:nm.Nodup){n:Nat}{vs:List Wd}{p:List (Tm n)}(b:ic ws nm n vs p)(c:(vs.flatMap (pB ws n)).Nodup):(kj ws n vs).1=(bV (bk n) p [] nm).1/\(kj ws n vs).2.1=(bV (bk n) p [] nm).2.1/\(bV (bk n) p [] nm).2.2=nm:=
 (Bt (λx e a=>FK d n x e a) vs p b ([],[]) c (λ_ _=>rfl)).1
def ov:aq:=⟨#[99,111,100,101]⟩
def uz:aq:=⟨#[98,101,104]⟩
def My:aq:=⟨#[111,110]⟩
def nt:aq:=⟨#[115,101,110,100]⟩
def jy:aq:=⟨#[115,112,97,119,110]⟩
def ns:aq:=⟨#[108,105,110,107]⟩
def mC:aq:=⟨#[115,116,111,112]⟩
def fp(n:Nat)(x:Tm n):Bool:=(gK n x).1.1==0 && (gK n x).1.2.1==0 && (gK n x).1.2.2.toList.isEmpty && ((gK n x).2.2.1:Int)==0
def xx(s:aq)(v:Int):Bool:=s.toList.isEmpty && v==0
def oB(n:Nat)(a:Ac n):Bool:=
 if a.1=1 then xx a.2.2.1 a.2.2.2
 else if a.1=2 then fp n a.2.1.1 && ex a.2.2.1 && decide (0<=a.2.2.2) && decide (a.2.2.2<4)
 else if a.1=3 then fp n a.2.1.2 && xx a.2.2.1 a.2.2.2
 else if a.1=4 then fp n a.2.1.1 && fp n a.2.1.2 && xx a.2.2.1 a.2.2.2
 else false
def uf(n:Nat)(c:Cl n):Bool:=decide ((c.2.2.length:Int)<=8) && c.2.2.all (oB n)
def xo(n:Nat)(b:Bh n):Bool:=ex b.1 && decide (1<=(b.2.2.length:Int)) && decide ((b.2.2.length:Int)<=6) && b.2.2.all (uf n)
def kT(n:Nat)(l:List (Bh n)):Bool:=decide (1<=(l.length:Int)) && decide ((l.length:Int)<=7) && l.all (xo n)
def bw(s:aq)(N:Nat):Tm (N+1):=((2,0,s),(none,0),[])
def cH(n:Nat)(a:Ac (n+1)):Tm (n+2):=
 if a.1=1 then dx (n+1) [bw nt n,a.2.1.1,a.2.1.2]
 else if a.1=2 then dx (n+1) [bw jy n,bw a.2.2.1 n,a.2.1.2,b8 5 a.2.2.2 n]
 else if a.1=3 then dx (n+1) [bw ns n,a.2.1.1]
 else dx (n+1) [bw mC n]
def dZ(n:Nat)(c:Cl (n+1)):Tm (n+4):=
 dx (n+3) [bw My (n+2),bf (n+3) (n+1) c.1.1,bf (n+3) (n+1) c.1.2.1,dx (n+2) (c.2.2.map (cH n)),bf (n+3) (n+1) c.1.2.2]
def eu(n:Nat)(b:Bh (n+1)):Tm (n+5):=dx (n+4) (bw uz (n+3)::bw b.1 (n+3)::b.2.2.map (dZ n))
def cm(n:Nat)(l:List (Bh (n+1))):Tm (n+6):=dx (n+5) (bw ov (n+4)::l.map (eu n))
def fl{a β:Type}(R:a->β->Prop)(l:List a)(r:List β):Prop:=l.length=r.length/\∀(i:Nat)(x:a)(y:β),l[i]?=some x->r[i]?=some y->R x y
theorem fl.nil{b β:Type}{R:b->β->Prop}:fl R [] []:=⟨rfl,λi x y a=>by simp at a⟩
theorem fl.snoc{g β:Type}{R:g->β->Prop}{l:List g}{r:List β}(d:fl R l r){x:g}{y:β}(k:R x y):fl R (l++ [x]) (r++ [y]):=by
 refine⟨by simp[d.1],λf i b a c=>?_⟩;by_cases h:f<l.length
 ·rw[dB h]at a;rw[dB (by rw[<-d.1];exact h)]at c;exact d.2 f i b a c
 ·rw[dR (by omega)]at a;rw[dR (by rw[<-d.1];omega)]at c;have e:f-l.length=0:=by
   by_cases e:f-l.length=0
   ·exact e
   ·rw[eY (by simp;omega)]at a;cases a
  rw[<-d.1,e]at c;rw[e]at a;simp at a c;rw[<-a,<-c];exact k
theorem fl.tail{c β:Type}{R:c->β->Prop}{x:c}{y:β}{l:List c}{r:List β}(a:fl R (x::l) (y::r)):R x y/\fl R l r:=
 ⟨a.2 0 x y (by simp) (by simp),by simpa using a.1,λg d b e f=>a.2 (g+1) d b (by simpa using e) (by simpa using f)⟩
theorem fl.all{a β:Type}{R:a->β->Prop}(f:a->Bool)(g:β->Bool)(b:∀x y,R x y->f x=g y):(l:List a)->(r:List β)->fl R l r->l.all f=r.all g
 | [],[],_=>rfl
 | [],_::_,h=>by have:=h.1;simp at this
 | _::_,[],h=>by have:=h.1;simp at this
 | x::l,y::r,h=>by
  simp only[jE,b x y h.tail.1,fl.all f g b l r h.tail.2]
theorem fl.same{c β:Type}{R:c->β->Prop}{n m:Nat}(f:c->Tm n)(g:β->Tm m)(d:∀x y,R x y->aB n (f x) m (g y)=true):(l:List c)->(r:List β)->fl R l r->aG (λa b=>aB n a m b) (l.map f) (r.map g)=true
 | [],[],_=>rfl
 | [],_::_,h=>by have:=h.1;simp at this
 | _::_,[],h=>by have:=h.1;simp at this
 | x::l,y::r,h=>by
  simp only[aV,aG,aK];exact⟨d x y h.tail.1,fl.same f g d l r h.tail.2⟩
def DC(n:Nat)(a b:Ac n):Prop:=a.1=b.1/\aB n a.2.1.1 n b.2.1.1=true/\aB n a.2.1.2 n b.2.1.2=true/\a.2.2=b.2.2
def Dv(n:Nat)(a b:Cl n):Prop:=(aB n a.1.1 n b.1.1=true/\aB n a.1.2.1 n b.1.2.1=true/\aB n a.1.2.2 n b.1.2.2=true)/\fl (DC n) a.2.2 b.2.2
def zv(n:Nat)(a b:Bh n):Prop:=a.1=b.1/\fl (Dv n) a.2.2 b.2.2
theorem Gl{n m:Nat}{x:Tm n}{y:Tm m}(a:aB n x m y=true):(gK n x).1=(gK m y).1/\(gK n x).2.2.1=(gK m y).2.2.1:=by
 cases n with
 | zero=>simp[aB]at a
 | succ n=>
  cases m with
  | zero=>simp[aB]at a
  | succ m=>
   have b:=bQ a;have c:=cW _ _ _ b.2;simp only[gK,bO];exact⟨b.1,c⟩
theorem sw{n m:Nat}{x:Tm n}{y:Tm m}(b:aB n x m y=true):fp n x=fp m y:=by
 have a:=Gl b;simp only[fp,a.1,a.2]
theorem P3{n:Nat}{a b:Ac n}(c:DC n a b):oB n a=oB n b:=by
 obtain⟨d,e,f,g⟩:=c;simp only[oB,d,g,sw e,sw f]
theorem P5{n:Nat}{a b:Cl n}(c:Dv n a b):uf n a=uf n b:=by
 simp only[uf,c.2.1,fl.all (R:=DC n) (oB n) (oB n) (λ_ _ c=>P3 c) _ _ c.2]
theorem P4{n:Nat}{a b:Bh n}(c:zv n a b):xo n a=xo n b:=by
 simp only[xo,c.1,c.2.1,fl.all (R:=Dv n) (uf n) (uf n) (λ_ _ c=>P5 c) _ _ c.2]
theorem Ll{n:Nat}{l r:List (Bh n)}(a:fl (zv n) l r):kT n l=kT n r:=by
 simp only[kT,a.1,fl.all (R:=zv n) (xo n) (xo n) (λ_ _ a=>P4 a) _ _ a]
theorem eC(s:aq)(N M:Nat):aB (N+1) (bw s N) (M+1) (bw s M)=true:=dt rfl rfl
theorem Ej(k a:Int)(N M:Nat):aB (N+1) (b8 k a N) (M+1) (b8 k a M)=true:=dt rfl rfl
theorem iu{N M:Nat}{l:List (Tm N)}{r:List (Tm M)}(c:aG (λa b=>aB N a M b) l r=true):aB (N+1) (dx N l) (M+1) (dx M r)=true:=dt rfl c
theorem mY:(N n:Nat)->n<=N->(x:Tm n)->aB n x n x=true->aB N (bf N n x) n x=true
 | _,0,_,_,h=>by simp[aB]at h
 | 0,n+1,h,_,_=>by omega
 | N+1,n+1,h,x,hr=>by
  have b:=(bQ hr).2;refine dt rfl (jt _ _ _ λy c=>mY N n (by omega) y ?_);obtain⟨i,a⟩:=dp c;exact jV _ _ _ b i y y a a
theorem yK{n m:Nat}{x:Tm n}{y:Tm m}(a:aB n x m y=true):aB n x n x=true:=bS _ _ _ _ _ _ a (dX _ _ _ _ a)
theorem EQ{n m:Nat}{x:Tm n}{y:Tm m}(a:aB n x m y=true):aB m y m y=true:=bS _ _ _ _ _ _ (dX _ _ _ _ a) a
theorem pr{N n m:Nat}(c:n<=N)(b:m<=N){x:Tm n}{y:Tm m}(a:aB n x m y=true):aB N (bf N n x) N (bf N m y)=true:=
 bS _ _ _ _ _ _ (mY N n c x (yK a)) (bS _ _ _ _ _ _ a (dX _ _ _ _ (mY N m b y (EQ a))))
theorem mn{B:Nat}{w:ag}:{n:Nat}->{x:Tm n}->In B w n x->aB n x n x=true
 | 0,_,k=>k.elim
 | n+1,x,k=>by
  refine dt rfl (ju _ _ λy a=>?_);obtain⟨i,c⟩:=dp a;rcases k.2 with e|⟨b,o,_,_,d⟩
  ·rw[e]at a;cases a
  ·exact mn (d i y c).2
theorem JN{n:Nat}{a b:Ac (n+1)}(e:DC (n+1) a b):aB (n+2) (cH n a) (n+2) (cH n b)=true:=by
 obtain⟨f,c,d,g⟩:=e;unfold cH;rw[f,g];split
 ·exact iu (by simp[aG,eC,c,d])
 split
 ·exact iu (by simp[aG,eC,Ej,d])
 split
 ·exact iu (by simp[aG,eC,c])
 ·exact iu (by simp[aG,eC])
theorem J6{n:Nat}{a b:Cl (n+1)}(c:Dv (n+1) a b):aB (n+4) (dZ n a) (n+4) (dZ n b)=true:=by
 have d:=fl.same (cH n) (cH n) (λ_ _ c=>JN c) _ _ c.2;exact iu (by simp only[aG,aK];exact⟨eC _ _ _,pr (by omega) (by omega) c.1.1,pr (by omega) (by omega) c.1.2.1,iu d,pr (by omega) (by omega) c.1.2.2,trivial⟩)
theorem JT{n:Nat}{a b:Bh (n+1)}(c:zv (n+1) a b):aB (n+5) (eu n a) (n+5) (eu n b)=true:=by
 have d:=fl.same (dZ n) (dZ n) (λ_ _ c=>J6 c) _ _ c.2;refine iu ?_;simp only[aG,aK];exact⟨eC _ _ _,by rw[c.1];exact eC _ _ _,d⟩
theorem Lm{n:Nat}{l r:List (Bh (n+1))}(a:fl (zv (n+1)) l r):aB (n+6) (cm n l) (n+6) (cm n r)=true:=by
 have b:=fl.same (eu n) (eu n) (λ_ _ a=>JT a) _ _ a;refine iu ?_;simp only[aG,aK];exact⟨eC _ _ _,b⟩
theorem dY(k b:Int)(s:aq)(a:ar)(l c:Nat)(w:ag):ao 195 #[.agg #[ab k,ab b,af s,ae a l c]] w λe w'=>e=.returned (.bool (k==0 && b==0 && s.toList.isEmpty && (l:Int)==0))/\w'=w.alloc (.cells #[ab k,ab b,af s,ae a l c] 31):=by
 cases h1:k==0
 ·go_enter func195,ntmps195;go_wp2_with fail
  go_ret
  exact⟨rfl,rfl⟩
 cases h2:b==0
 ·go_enter func195,ntmps195;go_wp2_with fail
  go_ret
  exact⟨rfl,rfl⟩
 cases h3:s.toList.isEmpty
 ·go_enter func195,ntmps195;go_wp2_with fail
  go_ret
  exact⟨rfl,rfl⟩
 go_enter func195,ntmps195;go_wp2_with fail
 go_ret
 exact⟨rfl,rfl⟩
theorem qU(K t0 t1 a b v:Int)(t2 c s:aq)(t3 d:ar)(t4 t5 f g:Nat)(w:ag):ao 194 #[.agg #[ab K,ab t0,ab t1,af t2,ae t3 t4 t5,ab a,ab b,af c,ae d f g,af s,ab v]] w λe w'=>e=.returned (.bool (xx s v))/\w'=w.alloc (.cells #[ab K,ab t0,ab t1,af t2,ae t3 t4 t5,ab a,ab b,af c,ae d f g,af s,ab v] 248):=by
 unfold xx;cases h3:s.toList.isEmpty
 ·go_enter func194,ntmps194;go_wp2_with fail
  go_ret
  exact⟨rfl,rfl⟩
 go_enter func194,ntmps194;go_wp2_with fail
 go_ret
 exact⟨rfl,rfl⟩
theorem Ed(K t0 t1 o p v:Int)(t2 q s:aq)(t3 t:ar)(t4 t5 r u:Nat)(w:ag)(m:s.size<=9223372036854775807)(h i l n:Bool)(a:Hid ((t0==0 && t1==0 && t2.toList.isEmpty && (t4:Int)==0)=h))(d:Hid ((o==0 && p==0 && q.toList.isEmpty && (r:Int)==0)=i))(j:Hid (xx s v=l))(f:Hid (ex s=n)):ao 179 #[.agg #[ab K,ab t0,ab t1,af t2,ae t3 t4 t5,ab o,ab p,af q,ae t r u,af s,ab v]] w λe w'=>e=.returned (.bool (if K=1 then l else if K=2 then h && n && decide (0<=v) && decide (v<4)else if K=3 then i && l else if K=4 then h && i && l else false))/\am w w':=by
 by_cases b:K=1
 ·subst b;rw[if_pos rfl];go_enter func179,ntmps179;go_wp2_with (go_at_call 194;refine(qU _ _ _ _ _ _ _ _ _ _ _ _ _ _ _ _).mono ?_;rintro e w' ⟨rfl,rfl⟩;rw[j.out])
  go_ret
  exact⟨rfl,by go_grown⟩
 rw[if_neg b];by_cases c:K=2
 ·subst c;rw[if_pos rfl];clear d j b;cases h
  ·go_enter func179,ntmps179;go_wp2_with (go_at_call 195;refine(dY _ _ _ _ _ _ _).mono ?_;rintro e w' ⟨rfl,rfl⟩;rw[a.out])
   go_ret
   exact⟨rfl,by go_grown⟩
  cases n
  ·go_enter func179,ntmps179;go_wp2_with (first|(go_at_call 195;refine(dY _ _ _ _ _ _ _).mono ?_;rintro e w' ⟨rfl,rfl⟩;rw[a.out])|(go_at_call 71;refine(jm _ _ m).mono ?_;rintro e w' ⟨rfl,rfl⟩;rw[f.out]))
   go_ret
   exact⟨rfl,by go_grown⟩
  cases hv:decide (0<=v)
  ·go_enter func179,ntmps179;go_wp2_with (first|(go_at_call 195;refine(dY _ _ _ _ _ _ _).mono ?_;rintro e w' ⟨rfl,rfl⟩;rw[a.out])|(go_at_call 71;refine(jm _ _ m).mono ?_;rintro e w' ⟨rfl,rfl⟩;rw[f.out]))
   go_ret
   exact⟨rfl,by go_grown⟩
  ·go_enter func179,ntmps179;go_wp2_with (first|(go_at_call 195;refine(dY _ _ _ _ _ _ _).mono ?_;rintro e w' ⟨rfl,rfl⟩;rw[a.out])|(go_at_call 71;refine(jm _ _ m).mono ?_;rintro e w' ⟨rfl,rfl⟩;rw[f.out]))
   go_ret
   exact⟨rfl,by go_grown⟩
 rw[if_neg c];by_cases g:K=3
 ·subst g;rw[if_pos rfl];clear a f b c;cases i
  ·go_enter func179,ntmps179;go_wp2_with (go_at_call 195;refine(dY _ _ _ _ _ _ _).mono ?_;rintro e w' ⟨rfl,rfl⟩;rw[d.out])
   go_ret
   exact⟨rfl,by go_grown⟩
  ·go_enter func179,ntmps179;go_wp2_with (first|(go_at_call 195;refine(dY _ _ _ _ _ _ _).mono ?_;rintro e w' ⟨rfl,rfl⟩;rw[d.out])|(go_at_call 194;refine(qU _ _ _ _ _ _ _ _ _ _ _ _ _ _ _ _).mono ?_;rintro e w' ⟨rfl,rfl⟩;rw[j.out]))
   go_ret
   exact⟨rfl,by go_grown⟩
 rw[if_neg g];by_cases k:K=4
 ·subst k;rw[if_pos rfl];clear f b c g;cases h
  ·go_enter func179,ntmps179;go_wp2_with (go_at_call 195;refine(dY _ _ _ _ _ _ _).mono ?_;rintro e w' ⟨rfl,rfl⟩;rw[a.out])
   go_ret
   exact⟨rfl,by go_grown⟩
  cases i
  ·go_enter func179,ntmps179;go_wp2_with (go_at_call 195;refine(dY _ _ _ _ _ _ _).mono ?_;rintro e w' ⟨rfl,rfl⟩;first|rw[a.out]|rw[d.out])
   go_ret
   exact⟨rfl,by go_grown⟩
  ·go_enter func179,ntmps179;go_wp2_with (first|(go_at_call 195;refine(dY _ _ _ _ _ _ _).mono ?_;rintro e w' ⟨rfl,rfl⟩;first|rw[a.out]|rw[d.out])|(go_at_call 194;refine(qU _ _ _ _ _ _ _ _ _ _ _ _ _ _ _ _).mono ?_;rintro e w' ⟨rfl,rfl⟩;rw[j.out]))
   go_ret
   exact⟨rfl,by go_grown⟩
 rw[if_neg k];have x:(K==1)=false:=by simpa using b
 have y:(K==2)=false:=by simpa using c
 have z:(K==3)=false:=by simpa using g
 have A:(K==4)=false:=by simpa using k
 clear b c g k;go_enter func179,ntmps179;go_wp2_with fail
 go_ret
 exact⟨rfl,by go_grown⟩
theorem Hs(n:Nat)(a:Ac (n+1))(w:ag)(b:a.2.2.1.size<=maxLen):ao 179 #[.agg (gH (n+1) a).toArray] w λe w'=>e=.returned (.bool (oB (n+1) a))/\am w w':=by
 unfold maxLen at b;exact Ed a.1 _ _ _ _ _ _ _ _ _ _ _ _ _ _ w (by omega) _ _ _ _ rfl rfl rfl rfl
def OC(n:Nat)(w:ag)(b o:Nat)(x:Ac (n+1)):Prop:=
 w.cell? ⟨b,o,none⟩=some (ab x.1)/\
 (w.cell? ⟨b,o+1,none⟩=some (ab x.2.1.1.1.1)/\w.cell? ⟨b,o+2,none⟩=some (ab x.2.1.1.1.2.1)/\w.cell? ⟨b,o+3,none⟩=some (af x.2.1.1.1.2.2)/\w.cell? ⟨b,o+4,none⟩=some (ae x.2.1.1.2.1.1 x.2.1.1.2.2.length x.2.1.1.2.1.2))/\
 (w.cell? ⟨b,o+5,none⟩=some (ab x.2.1.2.1.1)/\w.cell? ⟨b,o+6,none⟩=some (ab x.2.1.2.1.2.1)/\w.cell? ⟨b,o+7,none⟩=some (af x.2.1.2.1.2.2)/\w.cell? ⟨b,o+8,none⟩=some (ae x.2.1.2.2.1.1 x.2.1.2.2.2.length x.2.1.2.2.1.2))/\
 w.cell? ⟨b,o+9,none⟩=some (af x.2.2.1)/\w.cell? ⟨b,o+10,none⟩=some (ab x.2.2.2)
def OH(n:Nat)(w:ag)(b o:Nat)(x:Cl (n+1)):Prop:=
 (w.cell? ⟨b,o,none⟩=some (ab x.1.1.1.1)/\w.cell? ⟨b,o+1,none⟩=some (ab x.1.1.1.2.1)/\w.cell? ⟨b,o+2,none⟩=some (af x.1.1.1.2.2)/\w.cell? ⟨b,o+3,none⟩=some (ae x.1.1.2.1.1 x.1.1.2.2.length x.1.1.2.1.2))/\
 (w.cell? ⟨b,o+4,none⟩=some (ab x.1.2.1.1.1)/\w.cell? ⟨b,o+5,none⟩=some (ab x.1.2.1.1.2.1)/\w.cell? ⟨b,o+6,none⟩=some (af x.1.2.1.1.2.2)/\w.cell? ⟨b,o+7,none⟩=some (ae x.1.2.1.2.1.1 x.1.2.1.2.2.length x.1.2.1.2.1.2))/\
 w.cell? ⟨b,o+8,none⟩=some (ae x.2.1.1 x.2.2.length x.2.1.2)/\
 (w.cell? ⟨b,o+9,none⟩=some (ab x.1.2.2.1.1)/\w.cell? ⟨b,o+10,none⟩=some (ab x.1.2.2.1.2.1)/\w.cell? ⟨b,o+11,none⟩=some (af x.1.2.2.1.2.2)/\w.cell? ⟨b,o+12,none⟩=some (ae x.1.2.2.2.1.1 x.1.2.2.2.2.length x.1.2.2.2.1.2))
theorem qz.ac{n B:Nat}{w:ag}{e:Ac (n+1)->Prop}{a:ar}{p:List (Ac (n+1))}(d:qz B w 11 (gH (n+1)) e a p)(k:Nat)(x:Ac (n+1))(f:p[k]?=some x):∃b o,a=some ⟨b,o,none⟩/\b<B/\OC n w b (o+k*11) x/\e x:=by
 rcases d with d|⟨b,o,g,i,d⟩
 ·subst d;simp at f
 ·obtain⟨c,h⟩:=d k x f;exact⟨b,o,g,i,⟨c 0 _ rfl,⟨c 1 _ rfl,c 2 _ rfl,c 3 _ rfl,c 4 _ rfl⟩,⟨c 5 _ rfl,c 6 _ rfl,c 7 _ rfl,c 8 _ rfl⟩,c 9 _ rfl,c 10 _ rfl⟩,h⟩
theorem qz.cl{n B:Nat}{w:ag}{e:Cl (n+1)->Prop}{a:ar}{p:List (Cl (n+1))}(d:qz B w 13 (fy (n+1)) e a p)(k:Nat)(x:Cl (n+1))(f:p[k]?=some x):∃b o,a=some ⟨b,o,none⟩/\b<B/\OH n w b (o+k*13) x/\e x:=by
 rcases d with d|⟨b,o,g,i,d⟩
 ·subst d;simp at f
 ·obtain⟨c,h⟩:=d k x f;exact⟨b,o,g,i,⟨⟨c 0 _ rfl,c 1 _ rfl,c 2 _ rfl,c 3 _ rfl⟩,⟨c 4 _ rfl,c 5 _ rfl,c 6 _ rfl,c 7 _ rfl⟩,c 8 _ rfl,c 9 _ rfl,c 10 _ rfl,c 11 _ rfl,c 12 _ rfl⟩,h⟩
theorem qz.bh{n B:Nat}{w:ag}{d:Bh (n+1)->Prop}{a:ar}{p:List (Bh (n+1))}(c:qz B w 2 (p7 (n+1)) d a p)(k:Nat)(x:Bh (n+1))(f:p[k]?=some x):∃b o,a=some ⟨b,o,none⟩/\b<B/\(ai w b (o+k*2) (af x.1)/\ai w b (o+k*2+1) (ae x.2.1.1 x.2.2.length x.2.1.2))/\d x:=by
 rcases c with c|⟨b,o,g,i,c⟩
 ·subst c;simp at f
 ·obtain⟨e,h⟩:=c k x f;exact⟨b,o,g,i,⟨e 0 _ rfl,e 1 _ rfl⟩,h⟩
theorem kR{b:Type}{c:Nat->ag->b->Prop}{d:(Nat->Prop)->b->Prop}(g:kv c d){k:Nat}{f:b->List au}{a:ar}{B:Nat}{w w':ag}(h:Below B w w'){l:List b}(e:qz B w k f (c B w) a l):qz B w' k f (c B w') a l:=(cU g k f a).below h e
theorem A7(n:Nat)(p:List (Ac (n+1)))(len:Nat)(q:Hid (p.length=len))(a:ar)(pc B:Nat)(w:ag)(t:Hid (qz B w 11 (gH (n+1)) (jd (n+1) B w) a p))(C:len<=9223372036854775807)(r:B<=w.heap.size):ao 141 #[ae a len pc] w λe w'=>e=.returned (.bool (decide ((len:Int)<=8) && p.all (oB (n+1))))/\am w w':=by
 by_cases v:(8:Int)<len
 ·have d:decide ((len:Int)<=8)=false:=by simp;omega
  rw[d];go_enter func141,ntmps141;go_wp2_with fail
  go_ret
  exact⟨rfl,aA _ _⟩
 have d:decide ((len:Int)<=8)=true:=by simp;omega
 rw[d,eV];clear d;go_enter func141,ntmps141;go_wp2_with fail;go_loopw [10] (λi wr=>∃k:Nat,k<=len/\i=ab k/\am w wr/\Hid ((p.drop k).all (oB (n+1))=p.all (oB (n+1)))) (λi _=>len-(intOf i).toNat)
 case atStart=>exact⟨0,by omega,rfl,aA _ _,rfl⟩
 case round=>
  obtain⟨k,y,rfl,c,g⟩:=hrel;by_cases s:k<len
  ·obtain⟨x,h⟩:∃x,p[k]?=some x:=⟨p[k]'(by rw[q.out];exact s),aN _⟩;have j:=ap (rD (oB (n+1)) p k x h);obtain⟨E,po,rfl,D,⟨F,⟨G,I,J,K⟩,⟨L,M,N,O⟩,P,H⟩,o⟩:=(kR (f9 (n+1)) (c.mono r) t).ac k x h;have f:=λb=>ap (Hs n x b o.2.2.2.1);replace f:Hid (∀b,ao 179 #[.agg #[ab x.1,ab x.2.1.1.1.1,ab x.2.1.1.1.2.1,af x.2.1.1.1.2.2,ae x.2.1.1.2.1.1 x.2.1.1.2.2.length x.2.1.1.2.1.2,ab x.2.1.2.1.1,ab x.2.1.2.1.2.1,af x.2.1.2.1.2.2,ae x.2.1.2.2.1.1 x.2.1.2.2.2.length x.2.1.2.2.1.2,af x.2.2.1,ab x.2.2.2]] b λe w'=>e=.returned (.bool (oB (n+1) x))/\am b w'):=λb=>(f b);clear o h;generalize oB (n+1) x=u at*;have z:(0:Int)<=(k:Int):=by omega
   have A:(k:Int)<(len:Int):=by omega
   go_wp2_with fail;refine(f _).mono ?_;rintro e b ⟨rfl,l⟩;have m:am w b:=(c.trans ((aS _ _).mono c.size)).trans (l.mono (by have:=c.size;simp;omega));clear l;cases u with
   | true=>
    go_wp2_with fail;go_roundw
    case rel=>exact⟨k+1,by omega,by go_num,m,by rw[<-g.out,j.out];rfl⟩
    case measure=>simp[intOf];omega
   | false=>
    go_wp2_with fail
    go_ret
    exact⟨b9 (by rw[<-g.out,j.out];rfl),m⟩
  ·go_wp2_with fail
   go_ret
   refine⟨b9 ?_,c⟩;rw[<-g.out,gt (by rw[q.out];omega)];rfl
theorem vf(n:Nat)(p:List (Cl (n+1)))(len:Nat)(r:Hid (p.length=len))(a:ar)(pc B:Nat)(w:ag)(y:Hid (qz B w 13 (fy (n+1)) (iE (n+1) B w) a p))(G:len<=9223372036854775807)(l:B<=w.heap.size):ao 100 #[ae a len pc] w λe w'=>e=.returned (.bool (decide (1<=(len:Int)) && decide ((len:Int)<=6) && p.all (uf (n+1))))/\am w w':=by
 by_cases A:(len:Int)<1
 ·have u:decide (1<=(len:Int))=false:=by simp;omega
  rw[u];go_enter func100,ntmps100;go_wp2_with fail
  go_ret
  exact⟨rfl,aA _ _⟩
 by_cases C:(6:Int)<len
 ·have d:decide ((len:Int)<=6)=false:=by simp;omega
  rw[d];go_enter func100,ntmps100;go_wp2_with fail
  go_ret
  exact⟨b9 (by simp),aA _ _⟩
 have d:(decide (1<=(len:Int)) && decide ((len:Int)<=6))=true:=by simp;omega
 rw[d,eV];clear d;go_enter func100,ntmps100;go_wp2_with fail;go_loopw [15] (λi wr=>∃k:Nat,k<=len/\i=ab k/\am w wr/\Hid ((p.drop k).all (uf (n+1))=p.all (uf (n+1)))) (λi _=>len-(intOf i).toNat)
 case atStart=>exact⟨0,by omega,rfl,aA _ _,rfl⟩
 case round=>
  obtain⟨k,D,rfl,c,f⟩:=hrel;by_cases v:k<len
  ·obtain⟨x,h⟩:∃x,p[k]?=some x:=⟨p[k]'(by rw[r.out];exact v),aN _⟩;have j:=ap (rD (uf (n+1)) p k x h);obtain⟨I,po,rfl,H,⟨⟨J,K,O,P⟩,⟨Q,R,S,T⟩,U,V,L,M,N⟩,g⟩:=(kR (eP (n+1)) (c.mono l) y).cl k x h;have m:B<=wr.heap.size:=aF l c.size
   have t:Hid (∀b,am wr b->ao 141 #[ae x.2.1.1 x.2.2.length x.2.1.2] b λe w'=>e=.returned (.bool (uf (n+1) x))/\am b w'):=
    λb s=>A7 n x.2.2 x.2.2.length rfl x.2.1.1 x.2.1.2 B b (kR (f9 (n+1)) (s.mono m) g.2.2) (by have:=g.2.1;unfold maxLen at this;omega) (aF m s.size)
   clear g h;generalize uf (n+1) x=z at*;have E:(0:Int)<=(k:Int):=by omega
   have F:(k:Int)<(len:Int):=by omega
   go_wp2_with fail;refine(t _ (aS _ _)).mono ?_;rintro e b ⟨rfl,o⟩;have q:am w b:=(c.trans ((aS _ _).mono c.size)).trans (o.mono (by have:=c.size;simp;omega));clear o;cases z with
   | true=>
    go_wp2_with fail;go_roundw
    case rel=>exact⟨k+1,by omega,by go_num,q,by rw[<-f.out,j.out];rfl⟩
    case measure=>simp[intOf];omega
   | false=>
    go_wp2_with fail
    go_ret
    exact⟨b9 (by rw[<-f.out,j.out];rfl),q⟩
  ·go_wp2_with fail
   go_ret
   refine⟨b9 ?_,c⟩;rw[<-f.out,gt (by rw[r.out];omega)];rfl
theorem O2(n:Nat)(x:Bh n):xo n x=(ex x.1 && (decide (1<=(x.2.2.length:Int)) && decide ((x.2.2.length:Int)<=6) && x.2.2.all (uf n))):=by
 simp only[xo,Bool.and_assoc]
theorem qm(n:Nat)(p:List (Bh (n+1)))(len:Nat)(j:Hid (p.length=len))(a:ar)(pc B:Nat)(w:ag)(D:Hid (gL (n+1) B w a p))(M:len<=9223372036854775807)(r:B<=w.heap.size):ao 65 #[ae a len pc] w λe w'=>e=.returned (.bool (kT (n+1) p))/\am w w':=by
 have q:Hid (kT (n+1) p=(decide (1<=(len:Int)) && decide ((len:Int)<=7) && p.all (xo (n+1)))):=by
  show kT (n+1) p=_;rw[<-j.out];rfl
 rw[q.out];by_cases H:(len:Int)<1
 ·have A:decide (1<=(len:Int))=false:=by simp;omega
  rw[A];go_enter func65,ntmps65;go_wp2_with fail
  go_ret
  exact⟨rfl,aA _ _⟩
 by_cases I:(7:Int)<len
 ·have d:decide ((len:Int)<=7)=false:=by simp;omega
  rw[d];go_enter func65,ntmps65;go_wp2_with fail
  go_ret
  exact⟨b9 (by simp),aA _ _⟩
 have d:(decide (1<=(len:Int)) && decide ((len:Int)<=7))=true:=by simp;omega
 rw[d,eV];clear d q;go_enter func65,ntmps65;go_wp2_with fail;go_loopw [15] (λm wr=>∃k:Nat,k<=len/\m=ab k/\am w wr/\Hid ((p.drop k).all (xo (n+1))=p.all (xo (n+1)))) (λm _=>len-(intOf m).toNat)
 case atStart=>exact⟨0,by omega,rfl,aA _ _,rfl⟩
 case round=>
  obtain⟨k,J,rfl,c,f⟩:=hrel;by_cases C:k<len
  ·obtain⟨x,l⟩:∃x,p[k]?=some x:=⟨p[k]'(by rw[j.out];exact C),aN _⟩;have i:=ap (rD (xo (n+1)) p k x l);obtain⟨O,po,rfl,N,⟨Q,R⟩,g⟩:=(gL.below (c.mono r) D).bh k x l;have s:B<=wr.heap.size:=aF r c.size;have E:x.1.size<=9223372036854775807:=by have:=g.1;unfold maxLen at this;omega
   have z:Hid (∀b,am wr b->ao 100 #[ae x.2.1.1 x.2.2.length x.2.1.2] b λe w'=>e=.returned (.bool (decide (1<=(x.2.2.length:Int)) && decide ((x.2.2.length:Int)<=6) && x.2.2.all (uf (n+1))))/\am b w'):=
    λb y=>vf n x.2.2 x.2.2.length rfl x.2.1.1 x.2.1.2 B b (kR (eP (n+1)) (y.mono s) g.2.2) (by have:=g.2.1;unfold maxLen at this;omega) (aF s y.size)
   have h:=ap (O2 (n+1) x);clear g l;generalize (decide (1<=(x.2.2.length:Int)) && decide ((x.2.2.length:Int)<=6) && x.2.2.all (uf (n+1)))=F at*;have K:(0:Int)<=(k:Int):=by omega
   have L:(k:Int)<(len:Int):=by omega
   have o:=λb=>ap (jm x.1 b E);generalize ex x.1=G at*;generalize xo (n+1) x=P at*;have t:am w (wr.alloc (.cells #[af x.1,ae x.2.1.1 x.2.2.length x.2.1.2] 151)):=c.trans ((aS _ _).mono c.size);cases G with
   | false=>
    go_wp2_with (go_at_call 71;refine(o _).mono ?_;rintro e w' ⟨rfl,rfl⟩)
    go_ret
    exact⟨b9 (by rw[<-f.out,i.out,h.out];rfl),t⟩
   | true=>
    go_wp2_with (first|(go_at_call 71;refine(o _).mono ?_;rintro e w' ⟨rfl,rfl⟩)|(go_at_call 100;refine(z _ (aS _ _)).mono ?_;rintro e b ⟨rfl,u⟩;have v:am w b:=t.trans (u.mono (by have:=c.size;simp;omega));clear u;cases F))
    ·go_ret
     exact⟨b9 (by rw[<-f.out,i.out,h.out];rfl),v⟩
    ·go_roundw
     case rel=>exact⟨k+1,by omega,by go_num,v,by rw[<-f.out,i.out,h.out];rfl⟩
     case measure=>simp[intOf];omega
  ·go_wp2_with fail
   go_ret
   refine⟨b9 ?_,c⟩;rw[<-f.out,gt (by rw[j.out];omega)];rfl
theorem jj(s:aq)(w:ag):ao 101 #[af s] w λe w'=>e=.returned (.agg #[ab 2,ab 0,af s,ae none 0 0])/\w'=w.alloc (.cells #[ab 2,ab 0,af s,ae none 0 0] 31):=by
 go_enter func101,ntmps101;go_wp2_with fail;exact ay (v:=.agg #[ab 2,ab 0,af s,ae none 0 0]) (by simp[results,results101,go_sem]) rfl ⟨rfl,rfl⟩
theorem gh(a:ar)(l c:Nat)(w:ag):ao 103 #[ae a l c] w λe w'=>e=.returned (.agg #[ab 4,ab 0,af ⟨#[]⟩,ae a l c])/\w'=w.alloc (.cells #[ab 4,ab 0,af ⟨#[]⟩,ae a l c] 31):=by
 go_enter func103,ntmps103;go_wp2_with fail;exact ay (v:=.agg #[ab 4,ab 0,af ⟨#[]⟩,ae a l c]) (by simp[results,results103,go_sem]) rfl ⟨rfl,rfl⟩
def jh(B N:Nat)(c:Tm N)(w:ag)(e:Ending)(w':ag):Prop:=
 ∃a:Tm N,e=.returned (dG N a)/\Hid (am w w'/\In w'.heap.size w' N a/\cD (λb=>b<B\/w.heap.size<=b) N a/\aB N a N c=true)
abbrev eK(n B base:Nat)(xs:List (Tm n))(v:au)(w0 wr:ag):Prop:=fF (λB w x=>In B w n x) (λP x=>cD P n x) (iQ n) 4 31 B base xs v w0 wr
theorem pF(n:Nat)(x:Tm n):(iQ n x).length=4:=rfl
theorem iI(s:aq)(N:Nat)(a:s.size<=maxLen)(B:Nat)(w:ag):In B w (N+1) (bw s N):=⟨⟨by simp[bw,dN],by simp[bw,dN],a,by simp[bw],by simp[bw]⟩,aj rfl⟩
theorem BY(k a:Int)(N:Nat)(b:dN k)(c:dN a)(B:Nat)(w:ag):In B w (N+1) (b8 k a N):=⟨⟨b,c,aM _,by simp[b8],by simp[b8]⟩,aj rfl⟩
theorem o9(s:aq)(N:Nat)(P:aO):cD P (N+1) (bw s N):=aj rfl
theorem FX{n:Nat}{w:ag}{b o:Nat}{x:Tm n}{B:Nat}{w0:ag}(d:In B w0 n x)(a:∀(j:Nat)(c:au),(iQ n x)[j]?=some c->w.cell? ⟨b,o+j,none⟩=some c):dH w b o n x:=by
 cases n with
 | zero=>exact d.elim
 | succ n=>exact⟨a 0 _ rfl,a 1 _ rfl,a 2 _ rfl,a 3 _ rfl⟩
theorem eK.tells{B base N:Nat}{xs ys:List (Tm N)}{v:au}{w w0 wr w':ag}(p:eK N B base xs v w0 wr)(x:w.heap.size<=base)(s:aG (λa b=>aB N a N b) xs ys=true)(u:∀b,b<B\/base<=b->b<wr.heap.size->w'.heap[b]?=wr.heap[b]?)(t:wr.heap.size<=w'.heap.size)(g:am w w'):∃a c,v=ae a xs.length c/\jh B (N+1) (dx N ys) w (.returned (.agg #[ab 4,ab 0,af ⟨#[]⟩,ae a xs.length c])) w':=by
 have j:=eG N;obtain⟨a,c,f,m,n,e⟩:=p.lay j (pF N);refine⟨a,c,f,((4,0,.empty),(a,c),xs),rfl,g,⟨⟨by simp[dN],by simp[dN],aM _,m.1,m.2⟩,?_⟩,?_,dt rfl s⟩
 ·have q:=(cU j 4 (iQ N) a).2.1 _ _ _ _ e n;have r:=(cU j 4 (iQ N) a).2.2.1 _ _ wr w' _ (λb l=>u b l.1 l.2) q n;have d:=(cU j 4 (iQ N) a).2.2.2.1 _ _ _ _ t r;rcases d with d|⟨b,o,f,g,d⟩
  ·exact aj d
  ·exact ak ⟨b,o,f,g,λk i h=>⟨FX (d k i h).2 (d k i h).1,(d k i h).2⟩⟩
 ·rcases e with e|⟨b,o,f,g,e⟩
  ·exact aj e
  ·exact ak ⟨b,o,f,by omega,λk i h=>(e i (aL h)).mono λb g=>by omega⟩
theorem pE{B N:Nat}(xs:List (Tm N)){w w1 w':ag}{cs:Array au}{g L:Nat}(a:am w w1)(r:g=w1.heap.size)(p:L=xs.length)(e:Below (w1.alloc (.cells cs 31)).heap.size (w1.alloc (.cells cs 31)) w')(q:cs.toList=xs.flatMap (iQ N))(u:xs.length<=8)(i:B<=w.heap.size)(f:∀y∈xs,In B w N y):jh B (N+1) (dx N xs) w (.returned (.agg #[ab 4,ab 0,af ⟨#[]⟩,ae (some ⟨g,0,none⟩) L L])) w':=by
 have o:=fF.lit (T:=31) (k:=4) (B:=B) (base:=w1.heap.size) (eG N) xs (w0:=w1) q (pF N) (by unfold maxLen;omega) (av _) (aA _ _) (λy d=>⟨((f y d).below (a.mono i)).mono (aF i a.size),(pq (f y d)).mono λb h=>aj h⟩);have j:am w (w1.alloc (.cells cs 31)):=a.trans ((aS _ _).mono a.size);obtain⟨s,c,l,k⟩:=eK.tells o a.size (ju _ _ λy d=>mn (f y d)) (λb _ h=>e.block b h) e.size (j.trans (e.mono j.size));injection l with m t n;subst m n p r;exact k
theorem ir{w:ag}{a b c:Obj}:am w (((w.alloc a).alloc b).alloc c)/\w.heap.size+1+1+1=(((w.alloc a).alloc b).alloc c).heap.size:=
 ⟨((aS _ _).alloc (by simp) _).alloc (by simp;omega) _,by simp⟩
theorem tJ{w:ag}{a b c d:Obj}:am w ((((w.alloc a).alloc b).alloc c).alloc d)/\w.heap.size+1+1+1+1=((((w.alloc a).alloc b).alloc c).alloc d).heap.size:=
 ⟨(((aS _ _).alloc (by simp) _).alloc (by simp;omega) _).alloc (by simp;omega) _,by simp⟩
theorem wk{w:ag}{o:Obj}:am w (w.alloc o).drew:=(aS _ _).drew
theorem aX{w:ag}{o:Obj}:am w (w.alloc o):=aS _ _
theorem oh(s:aq)(a:s.size<=8):s.size<=maxLen:=by unfold maxLen;omega
theorem AJ(n:Nat)(t x:Tm (n+1))(s:aq)(v:Int)(B:Nat)(w:ag)(b:In B w (n+1) t)(c:In B w (n+1) x)(h:B<=w.heap.size):ao 180 #[.agg #[ab 1,ab t.1.1,ab t.1.2.1,af t.1.2.2,ae t.2.1.1 t.2.2.length t.2.1.2,ab x.1.1,ab x.1.2.1,af x.1.2.2,ae x.2.1.1 x.2.2.length x.2.1.2,af s,ab v]] w (jh B (n+2) (dx (n+1) [bw nt n,t,x]) w):=by
 have f:Hid (∀e∈[bw nt n,t,x],In B w (n+1) e):=λe d=>by
  simp only[cY,gX,hU]at d;rcases d with rfl|rfl|rfl
  ·exact iI _ _ (oh _ (by decide)) _ _
  ·exact b
  ·exact c
 clear b c;go_enter func180,ntmps180;go_wp2_with fail
 go_region_held3 (λa=>(a.cell? ⟨w.heap.size,1,none⟩=some (ab t.1.1)/\a.cell? ⟨w.heap.size,2,none⟩=some (ab t.1.2.1)/\a.cell? ⟨w.heap.size,3,none⟩=some (af t.1.2.2)/\a.cell? ⟨w.heap.size,4,none⟩=some (ae t.2.1.1 t.2.2.length t.2.1.2))/\
     (a.cell? ⟨w.heap.size,5,none⟩=some (ab x.1.1)/\a.cell? ⟨w.heap.size,6,none⟩=some (ab x.1.2.1)/\a.cell? ⟨w.heap.size,7,none⟩=some (af x.1.2.2)/\a.cell? ⟨w.heap.size,8,none⟩=some (ae x.2.1.1 x.2.2.length x.2.1.2))) (first|(go_keep;done)|(simp[go_sem];done))
  ((first|(go_at_call 101;refine(jj _ _).mono ?_;rintro g i ⟨rfl,rfl⟩)|(go_at_call 103;refine(gh _ _ _ _).mono ?_;rintro g i ⟨rfl,rfl⟩)))
 go_wp2_with fail;exact ay (v:=.agg #[ab 4,ab 0,af ⟨#[]⟩,ae (some ⟨w.heap.size+1+1+1,0,none⟩) 3 3]) (by simp[results,results180,go_sem]) rfl (pE [bw nt n,t,x] ir.1 ir.2 rfl wk rfl (by simp) h f)
theorem AI(n:Nat)(t x:Tm (n+1))(s:aq)(v:Int)(B:Nat)(w:ag)(b:In B w (n+1) t)(g:B<=w.heap.size):ao 180 #[.agg #[ab 3,ab t.1.1,ab t.1.2.1,af t.1.2.2,ae t.2.1.1 t.2.2.length t.2.1.2,ab x.1.1,ab x.1.2.1,af x.1.2.2,ae x.2.1.1 x.2.2.length x.2.1.2,af s,ab v]] w (jh B (n+2) (dx (n+1) [bw ns n,t]) w):=by
 have e:Hid (∀d∈[bw ns n,t],In B w (n+1) d):=λd c=>by
  simp only[cY,gX,hU]at c;rcases c with rfl|rfl
  ·exact iI _ _ (oh _ (by decide)) _ _
  ·exact b
 clear b;go_enter func180,ntmps180;go_wp2_with fail
 go_region_held3 (λa=>a.cell? ⟨w.heap.size,1,none⟩=some (ab t.1.1)/\a.cell? ⟨w.heap.size,2,none⟩=some (ab t.1.2.1)/\a.cell? ⟨w.heap.size,3,none⟩=some (af t.1.2.2)/\a.cell? ⟨w.heap.size,4,none⟩=some (ae t.2.1.1 t.2.2.length t.2.1.2)) (first|(go_keep;done)|(simp[go_sem];done))
  ((first|(go_at_call 101;refine(jj _ _).mono ?_;rintro f h ⟨rfl,rfl⟩)|(go_at_call 103;refine(gh _ _ _ _).mono ?_;rintro f h ⟨rfl,rfl⟩)))
 go_wp2_with fail;exact ay (v:=.agg #[ab 4,ab 0,af ⟨#[]⟩,ae (some ⟨w.heap.size+1+1+1,0,none⟩) 2 2]) (by simp[results,results180,go_sem]) rfl (pE [bw ns n,t] ir.1 ir.2 rfl wk rfl (by simp) g e)
theorem AK(n:Nat)(K:Int)(g:(K==1)=false)(h:(K==2)=false)(i:(K==3)=false)(t x:Tm (n+1))(s:aq)(v:Int)(B:Nat)(w:ag)(e:B<=w.heap.size):ao 180 #[.agg #[ab K,ab t.1.1,ab t.1.2.1,af t.1.2.2,ae t.2.1.1 t.2.2.length t.2.1.2,ab x.1.1,ab x.1.2.1,af x.1.2.2,ae x.2.1.1 x.2.2.length x.2.1.2,af s,ab v]] w (jh B (n+2) (dx (n+1) [bw mC n]) w):=by
 have c:Hid (∀b∈[bw mC n],In B w (n+1) b):=λb a=>by
  simp only[cY,gX,hU]at a;subst a;exact iI _ _ (oh _ (by decide)) _ _
 go_enter func180,ntmps180;go_wp2_with (first|(go_at_call 101;refine(jj _ _).mono ?_;rintro d f ⟨rfl,rfl⟩)|(go_at_call 103;refine(gh _ _ _ _).mono ?_;rintro d f ⟨rfl,rfl⟩));exact ay (v:=.agg #[ab 4,ab 0,af ⟨#[]⟩,ae (some ⟨w.heap.size+1+1+1,0,none⟩) 1 1]) (by simp[results,results180,go_sem]) rfl (pE [bw mC n] ir.1 ir.2 rfl aX rfl (by simp) e c)
theorem xI(n:Nat)(t x:Tm (n+1))(s:aq)(v:Int)(c:dN v)(b:s.size<=maxLen)(B:Nat)(w:ag)(d:In B w (n+1) x)(i:B<=w.heap.size):ao 180 #[.agg #[ab 2,ab t.1.1,ab t.1.2.1,af t.1.2.2,ae t.2.1.1 t.2.2.length t.2.1.2,ab x.1.1,ab x.1.2.1,af x.1.2.2,ae x.2.1.1 x.2.2.length x.2.1.2,af s,ab v]] w (jh B (n+2) (dx (n+1) [bw jy n,bw s n,x,b8 5 v n]) w):=by
 have g:Hid (∀f∈[bw jy n,bw s n,x,b8 5 v n],In B w (n+1) f):=λf e=>by
  simp only[cY,gX,hU]at e;rcases e with rfl|rfl|rfl|rfl
  ·exact iI _ _ (oh _ (by decide)) _ _
  ·exact iI _ _ b _ _
  ·exact d
  ·exact BY _ _ _ (by simp[dN]) c _ _
 clear d b c;go_enter func180,ntmps180;go_wp2_with fail
 go_region_held3 (λa=>(a.cell? ⟨w.heap.size,9,none⟩=some (af s)/\a.cell? ⟨w.heap.size,10,none⟩=some (ab v))/\
     (a.cell? ⟨w.heap.size,5,none⟩=some (ab x.1.1)/\a.cell? ⟨w.heap.size,6,none⟩=some (ab x.1.2.1)/\a.cell? ⟨w.heap.size,7,none⟩=some (af x.1.2.2)/\a.cell? ⟨w.heap.size,8,none⟩=some (ae x.2.1.1 x.2.2.length x.2.1.2))) (first|(go_keep;done)|(simp[go_sem];done))
  ((first|(go_at_call 101;refine(jj _ _).mono ?_;rintro h j ⟨rfl,rfl⟩)|(go_at_call 103;refine(gh _ _ _ _).mono ?_;rintro h j ⟨rfl,rfl⟩)))
 all_goals go_wp2_with fail
 all_goals exact ay (v:=.agg #[ab 4,ab 0,af ⟨#[]⟩,ae (some ⟨w.heap.size+1+1+1+1,0,none⟩) 4 4]) (by simp[results,results180,go_sem]) rfl (pE [bw jy n,bw s n,x,b8 5 v n] tJ.1 tJ.2 rfl wk rfl (by simp) i g)
theorem C9(n:Nat)(a:Ac (n+1))(B:Nat)(w:ag)(m:jd (n+1) B w a)(c:B<=w.heap.size):ao 180 #[.agg (gH (n+1) a).toArray] w (jh B (n+2) (cH n a) w):=by
 obtain⟨b,⟨t,x⟩,d,e⟩:=a;obtain⟨o,i,j,k,l⟩:=m;unfold cH;by_cases f:b=1
 ·subst f;exact AJ n t x d e B w i j c
 by_cases g:b=2
 ·subst g;exact xI n t x d e l k B w j c
 by_cases h:b=3
 ·subst h;exact AI n t x d e B w i c
 ·simp only[f,g,h,if_false];exact AK n b (by simpa using f) (by simpa using g) (by simpa using h) t x d e B w c
theorem Fa{B N base:Nat}(xs ys:List (Tm N)){w w1 w':ag}{cs:Array au}{g L:Nat}(m:base<=w1.heap.size)(p:g=w1.heap.size)(i:L=xs.length)(n:w.heap.size<=base)(s:∀b,b<B\/base<=b->b<(w1.alloc (.cells cs 31)).heap.size->w'.heap[b]?=(w1.alloc (.cells cs 31)).heap[b]?)(r:(w1.alloc (.cells cs 31)).heap.size<=w'.heap.size)(l:am w w')(o:cs.toList=xs.flatMap (iQ N))(u:xs.length<=8)(j:∀y∈xs,In w1.heap.size w1 N y/\cD (λb=>b<B\/base<=b) N y)(q:aG (λa b=>aB N a N b) xs ys=true):jh B (N+1) (dx N ys) w (.returned (.agg #[ab 4,ab 0,af ⟨#[]⟩,ae (some ⟨g,0,none⟩) L L])) w':=by
 have h:=fF.lit (T:=31) (k:=4) (B:=B) (base:=base) (eG N) xs (w0:=w1) o (pF N) (by unfold maxLen;omega) m (aA _ _) j;obtain⟨a,c,d,k⟩:=eK.tells h n q s r l;injection d with e t f;subst e f i p;exact k
theorem eK.slice{N B base:Nat}{xs:List (Tm N)}{v:au}{w0 wr:ag}(b:eK N B base xs v w0 wr):∃a c,v=ae a xs.length c:=by
 rcases b.2.1.2 with⟨rfl,d⟩|⟨f,cap,e,rfl,_⟩
 ·exact⟨none,0,by rw[d]⟩
 ·exact⟨_,_,rfl⟩
theorem uP(N:Nat)(x:Tm N):∀b∈iQ N x,b.oneCell'=true:=by
 intro b a;simp[iQ,uk]at a;rcases a with rfl|rfl|rfl|rfl<;>rfl
theorem AL(w:ag)(x:Nd){g:Nat}(d:g=w.heap.size):∀j b,(uk x)[j]?=some b->(w.alloc (.cells #[ab x.1.1,ab x.1.2.1,af x.1.2.2,ae x.2.1 x.2.2.1 x.2.2.2] 31)).cell? ((⟨g,0,none⟩:Addr).add j)=some b:=by
 subst d;intro j b a;rw[fG];have:j<4:=(aZ.1 a).1;have c:j=0\/j=1\/j=2\/j=3:=by omega
 rcases c with rfl|rfl|rfl|rfl<;>simp[uk]at a<;>subst a<;>simp[go_sem]
theorem eK.app{N B base k:Nat}{xs:List (Tm N)}{v:au}{w0 wr a w4:ag}{g c:Nat}(h:eK N B base xs v w0 wr)(q:xs.length=k)(i:B<=base)(n:base<=wr.heap.size)(f:am wr a)(d:Tm N)(l:In a.heap.size a N d)(j:cD (λb=>b<B\/wr.heap.size<=b) N d){o:Obj}(r:w4.ownsRow base 31 4 (ae (some ⟨g,0,none⟩) (k+1) c) (k+1) (xs.flatMap (iQ N)++iQ N d))(p:(a.alloc o).grownBy w4 v.ownBlock)(m:v.ownBlock=some g\/g=a.heap.size+1):eK N B base (xs++ [d]) (ae (some ⟨g,0,none⟩) (k+1) c) w0 w4:=by
 subst q;have e:am a (a.alloc o):=aS _ _;exact fF.step (eG N) h i n (f.trans (e.mono f.size)) d ((l.below e).mono e.size) j r p (by simpa using m)
theorem eK.own{N B base k:Nat}{xs:List (Tm N)}{v:au}{w0 wr b:ag}(c:eK N B base xs v w0 wr)(d:xs.length=k)(a:am wr b)(o:Obj):(b.alloc o).ownsRow base 31 4 v k (xs.flatMap (iQ N)):=by
 subst d;exact ez c.2.1 (a.trans ((aS _ _).mono a.size))
theorem ie(w:ag)(o:Obj){b:Nat}(a:b<w.heap.size):(w.alloc o).heap[b]?=w.heap[b]? :=(di w o none).block b a (by simp)
theorem ax{w:ag}{q:Nat}{cs:Array au}{t:TypeId}(a:w.heap[q]?=some (.cells cs t))(j:Nat):w.cell? ⟨q,j,none⟩=cs[j]? :=by simp[World.cell?,a]
theorem dm{w:ag}{q:Nat}{cs:Array au}{t:TypeId}(a:w.heap[q]?=some (.cells cs t))(j:Nat):w.frozen? ⟨q,j,none⟩=false:=by simp[World.frozen?,a]
theorem kK(w:ag)(a c:Obj):((w.alloc a).alloc c).heap[w.heap.size]?=some a/\((w.alloc a).alloc c).heap[w.heap.size+1]?=some c:=by
 have f:=(ie (w.alloc a) c (b:=w.heap.size) (by simp)).trans (aD w a);have d:=aD (w.alloc a) c;have e:(w.alloc a).heap.size=w.heap.size+1:=by simp
 rw[e]at d;exact⟨f,d⟩
theorem Ap{w:ag}{r o:Nat}{v0 v1 v2 v3:au}{B base:Nat}(d:B<=r)(e:r<base){W:ag}(a:am W w):∀b,b<B\/base<=b->b<W.heap.size->(df w r o v0 v1 v2 v3).heap[b]?=W.heap[b]? :=λb f c=>(bm (by omega) _ _ _ _).trans (a.block b c)
theorem dW{w W:ag}{r o:Nat}{v0 v1 v2 v3:au}(a:am w W)(d:w.heap.size<=r):am w (df W r o v0 v1 v2 v3):=
 ⟨a.os,a.tape,a.output,aF a.size (dT (bG _ _ _ _).symm),λb c=>(bm (by omega) _ _ _ _).trans (a.block b c)⟩
theorem eK.tup{N B base k:Nat}{xs:List (Tm N)}{j:ar}{l:Nat}{w0 wr:ag}(q:eK N B base xs (ae j k l) w0 wr):In wr.heap.size wr (N+1) ((4,0,.empty),(j,l),xs)/\cD (λb=>b<B\/base<=b) (N+1) ((4,0,.empty),(j,l),xs):=by
 obtain⟨s,c,a,m,r,e⟩:=q.lay (eG N) (pF N);injection a with n t p;subst n p;refine⟨⟨⟨by simp[dN],by simp[dN],aM _,m.1,m.2⟩,?_⟩,?_⟩
 ·rcases r with d|⟨b,o,a,i,d⟩
  ·exact aj d
  ·exact ak ⟨b,o,a,i,λh g f=>⟨FX (d h g f).2 (d h g f).1,(d h g f).2⟩⟩
 ·rcases e with e|⟨b,o,a,i,e⟩
  ·exact aj e
  ·exact ak ⟨b,o,a,i,λh g f=>e g (aL f)⟩
theorem zF{n B base:Nat}{s m x:Tm (n+1)}{w wr w1:ag}{c:Tm (n+3)}{ys:List (Tm (n+2))}(k:B<=w.heap.size)(p:In B w (n+1) s)(o:In B w (n+1) m)(q:In B w (n+1) x)(l:am w wr)(j:In wr.heap.size wr (n+3) c/\cD (λb=>b<B\/base<=b) (n+3) c)(u:aB (n+3) c (n+3) (dx (n+2) ys)=true)(g:am wr w1):(∀y∈[bw My (n+2),bf (n+3) (n+1) s,bf (n+3) (n+1) m,c,bf (n+3) (n+1) x],In w1.heap.size w1 (n+3) y/\cD (λb=>b<B\/base<=b) (n+3) y)/\ aG (λa b=>aB (n+3) a (n+3) b) [bw My (n+2),bf (n+3) (n+1) s,bf (n+3) (n+1) m,c,bf (n+3) (n+1) x] [bw My (n+2),bf (n+3) (n+1) s,bf (n+3) (n+1) m,dx (n+2) ys,bf (n+3) (n+1) x]=true:=by
 have e:∀t:Tm (n+1),In B w (n+1) t->In w1.heap.size w1 (n+3) (bf (n+3) (n+1) t)/\cD (λb=>b<B\/base<=b) (n+3) (bf (n+3) (n+1) t):=λt h=>by
  have i:=pt (n+3) (n+1) (by omega) t B w h;have d:=l.trans (g.mono l.size);exact⟨(i.below (d.mono k)).mono (aF k d.size),(pq i).mono λb d=>aj d⟩
 have f:∀t:Tm (n+1),In B w (n+1) t->aB (n+3) (bf (n+3) (n+1) t) (n+3) (bf (n+3) (n+1) t)=true:=λt h=>mn (pt (n+3) (n+1) (by omega) t B w h);refine⟨λy r=>?_,by simp only[aG,f s p,f m o,f x q,u,eC,iS]⟩;simp only[cY,gX,hU]at r;rcases r with rfl|rfl|rfl|rfl|rfl
 ·exact⟨iI _ _ (oh _ (by decide)) _ _,o9 _ _ _⟩
 ·exact e s p
 ·exact e m o
 ·exact⟨(j.1.below g).mono g.size,j.2⟩
 ·exact e x q
theorem gS(N n:Nat)(x:Tm (n+1)):iQ (N+1) (bf (N+1) (n+1) x)=iQ (n+1) x:=by
 unfold iQ;rw[Nu]
theorem zD(n:Nat)(s m x:Tm (n+1))(a:ar)(b k:Nat)(xs:List (Tm (n+2)))(c:xs.length=k):[ab 2,ab 0,af ⟨#[111,110]⟩,ae none 0 0,ab s.1.1,ab s.1.2.1,af s.1.2.2,ae s.2.1.1 s.2.2.length s.2.1.2,ab m.1.1,ab m.1.2.1,af m.1.2.2,ae m.2.1.1 m.2.2.length m.2.1.2,ab 4,ab 0,af ⟨#[]⟩,ae a k b,ab x.1.1,ab x.1.2.1,af x.1.2.2,ae x.2.1.1 x.2.2.length x.2.1.2]=
     List.flatMap (iQ (n+3)) [bw My (n+2),bf (n+3) (n+1) s,bf (n+3) (n+1) m,((4,0,.empty),(a,b),xs),bf (n+3) (n+1) x]:=by
 show _=iQ (n+3) (bw My (n+2))++(iQ (n+3) (bf (n+3) (n+1) s)++(iQ (n+3) (bf (n+3) (n+1) m)++(iQ (n+3) ((4,0,.empty),(a,b),xs)++(iQ (n+3) (bf (n+3) (n+1) x)++ []))));rw[gS,gS,gS,<-c];rfl
theorem mJ{a β:Type}(f:a->β)(p:List a)(k:Nat)(x:a)(b:p[k]?=some x):(p.take (k+1)).map f=(p.take k).map f++ [f x]:=by
 rw[dF,b];simp
def Q5(n B:Nat)(p:List (Ac (n+1)))(w0:ag)(base k:Nat)(v:au)(wr:ag):Prop:=
 ∃a,a.length=k/\eK (n+2) B base a v w0 wr/\aG (λc b=>aB (n+2) c (n+2) b) a ((p.take k).map (cH n))=true
theorem ux(n:Nat)(s m x:Tm (n+1))(p:List (Ac (n+1)))(len:Nat)(av:Hid (p.length=len))(bw:len<=8)(a:ar)(pc:Nat)(B:Nat)(w:ag)(bf:Hid (In B w (n+1) s))(bb:Hid (In B w (n+1) m))(bg:Hid (In B w (n+1) x))(bd:Hid (qz B w 11 (gH (n+1)) (jd (n+1) B w) a p))(ad:B<=w.heap.size)(Y:Tm (n+4))(a5:Hid (Y=dZ n ((s,m,x),(a,pc),p))):ao 142 #[.agg #[ab s.1.1,ab s.1.2.1,af s.1.2.2,ae s.2.1.1 s.2.2.length s.2.1.2,ab m.1.1,ab m.1.2.1,af m.1.2.2,ae m.2.1.1 m.2.2.length m.2.1.2,ae a len pc,ab x.1.1,ab x.1.2.1,af x.1.2.2,ae x.2.1.1 x.2.2.length x.2.1.2]] w (jh B (n+4) Y w):=by
 obtain⟨bh,an,az,aA,aC⟩:=bY gO;have G:=ap (⟨an,az,aA,aC⟩:_/\_/\_/\_);clear an az aA aC;go_enter func142,ntmps142;go_wp2_with fail;have F:=ap (kK w (.cells #[ab s.1.1,ab s.1.2.1,af s.1.2.2,ae s.2.1.1 s.2.2.length s.2.1.2,ab m.1.1,ab m.1.2.1,af m.1.2.2,ae m.2.1.1 m.2.2.length m.2.1.2,ae a len pc,ab x.1.1,ab x.1.2.1,af x.1.2.2,ae x.2.1.1 x.2.2.length x.2.1.2] 162) (.cells #[ab 0,ab 0,af ⟨#[]⟩,ae none 0 0] 31));generalize O:(w.alloc _).alloc _=z;rw[O]at F;have J:Hid (am w z/\z.heap.size=w.heap.size+2):=by
  subst O;exact⟨(aS _ _).alloc (by simp) _,by simp⟩
 have S:Hid (∀wr,Below (w.heap.size+2) z wr->am w wr):=λwr y=>J.out.1.trans (y.mono (by omega));go_loopw [3,9] (λv R wr=>∃(k:Nat)(aE:au),k<=len/\R=ab k/\aE=v/\Hid (Q5 n B p z (w.heap.size+2) k aE wr)) (λ_ R _=>len-(intOf R).toNat)
 case atStart=>exact⟨0,_,by omega,rfl,rfl,[],rfl,fF.nil _,rfl⟩
 case round=>
  obtain⟨k,v,bx,rfl,rfl,W⟩:=hrel;obtain⟨u,t,j,L⟩:∃u:List (Tm (n+2)),Hid (u.length=k)/\Hid (eK (n+2) B (w.heap.size+2) u v z wr)/\Hid (aG (λa b=>aB (n+2) a (n+2) b) u ((p.take k).map (cH n))=true):=W.out;clear W;have E:=ap (S.out wr j.out.1);have a8:w.heap.size+2<=wr.heap.size:=by have:=j.out.1.size;have:=J.out.2;omega
  by_cases ba:k<len
  ·obtain⟨e,Q⟩:∃e,p[k]?=some e:=⟨p[k]'(by rw[av.out];exact ba),aN _⟩;have aK:=ap (mJ (cH n) p k e Q);obtain⟨bi,po,rfl,bC,⟨bj,⟨bk,bm,bn,bo⟩,⟨bp,bq,br,bs⟩,bt,bl⟩,al⟩:=(kR (f9 (n+1)) (E.out.mono ad) bd.out).ac k e Q;have ah:B<=wr.heap.size:=by omega
   have T:Hid (∀w1,am wr w1->ao 180 #[.agg #[ab e.1,ab e.2.1.1.1.1,ab e.2.1.1.1.2.1,af e.2.1.1.1.2.2,ae e.2.1.1.2.1.1 e.2.1.1.2.2.length e.2.1.1.2.1.2,ab e.2.1.2.1.1,ab e.2.1.2.1.2.1,af e.2.1.2.1.2.2,ae e.2.1.2.2.1.1 e.2.1.2.2.2.length e.2.1.2.2.1.2,af e.2.2.1,ab e.2.2.2]] w1 (jh B (n+2) (cH n e) w1)):=
    λw1 aD=>C9 n e B w1 ((f9 (n+1)).below (aD.mono ah) al) (aF ah aD.size)
   clear al Q;generalize cH n e=bu at*;have bz:(0:Int)<=(k:Int):=by omega
   have bA:(k:Int)<(len:Int):=by omega
   have bE:bi<wr.heap.size:=by omega
   obtain⟨l,q,C⟩:=j.out.slice;rw[t.out]at C;subst C;go_wp2_with fail;refine(T.out _ aX).mono ?_;rintro N D ⟨i,rfl,H⟩;have K:Hid (am wr D):=aX.trans (H.out.1.mono (by simp));have Z:dG (n+2) i=.agg #[ab i.1.1,ab i.1.2.1,af i.1.2.2,ae i.2.1.1 i.2.2.length i.2.1.2]:=rfl;rw[Z];have aM:=λ(o:Obj)(g c:Nat)(w4:ag) bc a9 a6=>ap (j.out.app t.out (by omega) a8 K.out i H.out.2.1 (H.out.2.2.1.mono λb a7=>by simp at a7;omega) (o:=o) (g:=g) (c:=c) (w4:=w4) bc a9 a6);have bv:wr.heap.size<=D.heap.size:=K.out.size;clear Z T bj bk bm bn bo bp bq br bs bt bl;go_wp2_with (at_builtin;refine wpList_append_lies _ rfl _ _ 29 rfl (w.heap.size+2) 31 bh _ 4 56 underlying29 G.out.1 G.out.2.1 G.out.2.2.1 G.out.2.2.2 rfl (by decide) (ae l k q) k (u.flatMap (iQ (n+2))) (by simp[Act.eval]) (j.out.own t.out K.out _) ⟨D.heap.size,0,none⟩ 1 1 (iQ (n+2) i) (by simp[Act.eval]) rfl (AL D (gK (n+2) i) rfl) (uP _ _) (by decide) (by unfold maxLen;omega) (by omega) (by simp;omega) (D.heap.size+1) (by simp) ?_;intro a3 M w4 aq ak aj bB;have aL:=aM _ a3 M w4 aq ak aj;clear aq ak aj);go_roundw
   case rel=>exact⟨k+1,_,by omega,by go_num,rfl,u++ [i],by simp[t.out],aL.out,by rw[aK.out];exact jv _ _ _ _ _ L.out H.out.2.2.2⟩
   case measure=>simp[intOf];omega
  ·obtain rfl:k=len:=by omega
   obtain⟨l,q,C⟩:=j.out.slice;rw[t.out]at C;subst C;have f:=ap (And.intro ((j.out.1.block w.heap.size (by omega)).trans F.out.1) ((j.out.1.block (w.heap.size+1) (by omega)).trans F.out.2));have aQ:wr.cell? ⟨w.heap.size,0,none⟩=some (ab s.1.1):=ax f.out.1 0;have aR:wr.cell? ⟨w.heap.size,1,none⟩=some (ab s.1.2.1):=ax f.out.1 1;have aW:wr.cell? ⟨w.heap.size,2,none⟩=some (af s.1.2.2):=ax f.out.1 2;have aY:wr.cell? ⟨w.heap.size,3,none⟩=some (ae s.2.1.1 s.2.2.length s.2.1.2):=ax f.out.1 3;have M:wr.cell? ⟨w.heap.size,4,none⟩=some (ab m.1.1):=ax f.out.1 4;have aZ:wr.cell? ⟨w.heap.size,5,none⟩=some (ab m.1.2.1):=ax f.out.1 5;have a0:wr.cell? ⟨w.heap.size,6,none⟩=some (af m.1.2.2):=ax f.out.1 6;have a1:wr.cell? ⟨w.heap.size,7,none⟩=some (ae m.2.1.1 m.2.2.length m.2.1.2):=ax f.out.1 7;have a2:wr.cell? ⟨w.heap.size,9,none⟩=some (ab x.1.1):=ax f.out.1 9;have aT:wr.cell? ⟨w.heap.size,10,none⟩=some (ab x.1.2.1):=ax f.out.1 10;have aU:wr.cell? ⟨w.heap.size,11,none⟩=some (af x.1.2.2):=ax f.out.1 11;have aV:wr.cell? ⟨w.heap.size,12,none⟩=some (ae x.2.1.1 x.2.2.length x.2.1.2):=ax f.out.1 12;have d0:wr.cell? ⟨w.heap.size+1,0,none⟩=some (ab 0):=ax f.out.2 0;have d1:wr.cell? ⟨w.heap.size+1,1,none⟩=some (ab 0):=ax f.out.2 1;have d2:wr.cell? ⟨w.heap.size+1,2,none⟩=some (af ⟨#[]⟩):=ax f.out.2 2;have d3:wr.cell? ⟨w.heap.size+1,3,none⟩=some (ae none 0 0):=ax f.out.2 3;have f0:=λI=>dm f.out.2 I;have be:w.heap.size<wr.heap.size:=by omega
   have A:w.heap.size+1<wr.heap.size:=by omega
   have U:Hid (∀d,am wr d->(d.cell? ⟨w.heap.size,0,none⟩=some (ab s.1.1)/\d.cell? ⟨w.heap.size,1,none⟩=some (ab s.1.2.1)/\d.cell? ⟨w.heap.size,2,none⟩=some (af s.1.2.2)/\d.cell? ⟨w.heap.size,3,none⟩=some (ae s.2.1.1 s.2.2.length s.2.1.2))/\
     (d.cell? ⟨w.heap.size,4,none⟩=some (ab m.1.1)/\d.cell? ⟨w.heap.size,5,none⟩=some (ab m.1.2.1)/\d.cell? ⟨w.heap.size,6,none⟩=some (af m.1.2.2)/\d.cell? ⟨w.heap.size,7,none⟩=some (ae m.2.1.1 m.2.2.length m.2.1.2))/\
     (d.cell? ⟨w.heap.size,9,none⟩=some (ab x.1.1)/\d.cell? ⟨w.heap.size,10,none⟩=some (ab x.1.2.1)/\d.cell? ⟨w.heap.size,11,none⟩=some (af x.1.2.2)/\d.cell? ⟨w.heap.size,12,none⟩=some (ae x.2.1.1 x.2.2.length x.2.1.2))):=λd y=>by
    have h:=λo=>aw y w.heap.size o be;exact⟨⟨(h _).trans aQ,(h _).trans aR,(h _).trans aW,(h _).trans aY⟩,⟨(h _).trans M,(h _).trans aZ,(h _).trans a0,(h _).trans a1⟩,(h _).trans a2,(h _).trans aT,(h _).trans aU,(h _).trans aV⟩
   have X:Hid True:=trivial;have aI:=λ(w1:ag)(a4:am wr w1)=>ap (zF (base:=w.heap.size+2) (ys:=p.map (cH n)) (w1:=w1) ad bf.out bb.out bg.out E.out j.out.tup (dt rfl (by have y:=L.out;rw[bD (by rw[av.out];omega)]at y;exact y)) a4);have aJ:=ap t.out;clear O j t L f S J F;go_wp2_with fail
   go_region_held3 (λd=>(d.cell? ⟨w.heap.size,0,none⟩=some (ab s.1.1)/\d.cell? ⟨w.heap.size,1,none⟩=some (ab s.1.2.1)/\d.cell? ⟨w.heap.size,2,none⟩=some (af s.1.2.2)/\d.cell? ⟨w.heap.size,3,none⟩=some (ae s.2.1.1 s.2.2.length s.2.1.2))/\
       (d.cell? ⟨w.heap.size,4,none⟩=some (ab m.1.1)/\d.cell? ⟨w.heap.size,5,none⟩=some (ab m.1.2.1)/\d.cell? ⟨w.heap.size,6,none⟩=some (af m.1.2.2)/\d.cell? ⟨w.heap.size,7,none⟩=some (ae m.2.1.1 m.2.2.length m.2.1.2))/\
       (d.cell? ⟨w.heap.size,9,none⟩=some (ab x.1.1)/\d.cell? ⟨w.heap.size,10,none⟩=some (ab x.1.2.1)/\d.cell? ⟨w.heap.size,11,none⟩=some (af x.1.2.2)/\d.cell? ⟨w.heap.size,12,none⟩=some (ae x.2.1.1 x.2.2.length x.2.1.2))) (first|(go_keep;done)|exact U.out _ r.out|(refine U.out _ ?_;go_grown;done))
    ((first
     | (go_at_call 101;refine(jj _ _).mono ?_;rintro N w1 ⟨rfl,rfl⟩)
     | (go_at_call 103;have aP:=X;clear X;refine(gh _ _ _ _).mono ?_;rintro N w1 ⟨rfl,rfl⟩)
     | (go_at_call 103;clear aP;refine(gh _ _ _ _).mono ?_;rintro N aH ⟨rfl,P⟩;have r:=ap (show am wr aH by rw[P];go_grown);have aO:=ap P;clear P;replace d0:=(aw r.out _ _ A).trans d0;replace d1:=(aw r.out _ _ A).trans d1;replace d2:=(aw r.out _ _ A).trans d2;replace d3:=(aw r.out _ _ A).trans d3;replace f0:=λI=>(ig r.out _ I A).trans (f0 I))))
   go_wp2_with fail;refine ay (v:=.agg #[ab 4,ab 0,af ⟨#[]⟩,ae (some ⟨wr.heap.size+1+1,0,none⟩) 5 5]) (by simp[results,results142,go_sem,d0,d1,d2,d3]) rfl ?_;rw[a5.out];have ai:am wr ((wr.alloc (.cells #[ab 2,ab 0,af ⟨#[111,110]⟩,ae none 0 0] 31)).alloc (.cells #[ab 4,ab 0,af ⟨#[]⟩,ae l k q] 31)):=by go_grown
   have aa:Below (((wr.alloc (.cells #[ab 2,ab 0,af ⟨#[111,110]⟩,ae none 0 0] 31)).alloc (.cells #[ab 4,ab 0,af ⟨#[]⟩,ae l k q] 31)).alloc (.cells #[ab 2,ab 0,af ⟨#[111,110]⟩,ae none 0 0,ab s.1.1,ab s.1.2.1,af s.1.2.2,ae s.2.1.1 s.2.2.length s.2.1.2,ab m.1.1,ab m.1.2.1,af m.1.2.2,ae m.2.1.1 m.2.2.length m.2.1.2,ab 4,ab 0,af ⟨#[]⟩,ae l k q,ab x.1.1,ab x.1.2.1,af x.1.2.2,ae x.2.1.1 x.2.2.length x.2.1.2] 31)).heap.size (((wr.alloc (.cells #[ab 2,ab 0,af ⟨#[111,110]⟩,ae none 0 0] 31)).alloc (.cells #[ab 4,ab 0,af ⟨#[]⟩,ae l k q] 31)).alloc (.cells #[ab 2,ab 0,af ⟨#[111,110]⟩,ae none 0 0,ab s.1.1,ab s.1.2.1,af s.1.2.2,ae s.2.1.1 s.2.2.length s.2.1.2,ab m.1.1,ab m.1.2.1,af m.1.2.2,ae m.2.1.1 m.2.2.length m.2.1.2,ab 4,ab 0,af ⟨#[]⟩,ae l k q,ab x.1.1,ab x.1.2.1,af x.1.2.2,ae x.2.1.1 x.2.2.length x.2.1.2] 31)) aH:=by rw[aO.out];go_grown
   have V:=aI _ ai;exact Fa (B:=B) (base:=w.heap.size+2) _ _ (by have:=ai.size;omega) (by simp) rfl (by omega) (Ap (by omega) (by omega) aa) (aF aa.size (dT (bG _ _ _ _).symm)) (dW (E.out.trans (r.out.mono E.out.size)) (by omega)) (zD n s m x l q k u aJ.out) (by show 5<=8;omega) V.out.1 V.out.2
theorem wU(n:Nat)(c:Cl (n+1))(B:Nat)(w:ag)(a:iE (n+1) B w c)(e:c.2.2.length<=8)(f:B<=w.heap.size):ao 142 #[.agg (fy (n+1) c).toArray] w (jh B (n+4) (dZ n c) w):=by
 obtain⟨⟨h,g,x⟩,⟨d,pc⟩,b⟩:=c;exact ux n h g x b b.length rfl e d pc B w a.1.1 a.1.2.1 a.1.2.2 a.2.2 f _ rfl
def Q8(n B:Nat)(d:List (Tm (n+4)))(p:List (Cl (n+1)))(w0:ag)(base k:Nat)(v:au)(wr:ag):Prop:=
 ∃a,a.length=k+2/\eK (n+4) B base a v w0 wr/\aG (λc b=>aB (n+4) c (n+4) b) a (d++(p.take k).map (dZ n))=true
theorem qW(n:Nat)(s:aq)(ba:s.size<=maxLen)(p:List (Cl (n+1)))(len:Nat)(aE:Hid (p.length=len))(bx:len<=6)(a2:Hid (∀c∈p,c.2.2.length<=8))(a:ar)(pc:Nat)(B:Nat)(w:ag)(a9:Hid (qz B w 13 (fy (n+1)) (iE (n+1) B w) a p))(a3:B<=w.heap.size)(Z:Tm (n+5))(a4:Hid (Z=eu n (s,(a,pc),p))):ao 102 #[.agg #[af s,ae a len pc]] w (jh B (n+5) Z w):=by
 obtain⟨bc,aC,aI,aJ,aK⟩:=bY gO;have A:=ap (⟨aC,aI,aJ,aK⟩:_/\_/\_/\_);clear aC aI aJ aK;go_enter func102,ntmps102;go_wp2_with fail;have O:=ap (kK w (.cells #[af s,ae a len pc] 151) (.cells #[ab 0,ab 0,af ⟨#[]⟩,ae none 0 0] 31)).2;have z:=ap (kK w (.cells #[af s,ae a len pc] 151) (.cells #[ab 0,ab 0,af ⟨#[]⟩,ae none 0 0] 31)).1;generalize P:(w.alloc _).alloc _=e;rw[P]at O z;have j:Hid (am w e/\e.heap.size=w.heap.size+2):=by
  subst P;exact⟨(aS _ _).alloc (by simp) _,by simp⟩
 have aP:Hid (∀wr,Below (w.heap.size+2) e wr->am w wr):=λwr h=>j.out.1.trans (h.mono (by omega));clear P;have aa:ai e w.heap.size 0 (af s):=ax z.out 0;have ad:ai e w.heap.size 1 (ae a len pc):=ax z.out 1;have aH:w.heap.size<e.heap.size:=by have:=j.out.2;omega
 have M:Hid (∀w',am e w'->ai w' w.heap.size 0 (af s)/\ai w' w.heap.size 1 (ae a len pc)):=λw' h=>⟨(aw h _ _ aH).trans aa,(aw h _ _ aH).trans ad⟩;clear z
 go_region_held3 (λw'=>w'.cell? ⟨w.heap.size,0,none⟩=some (af s)/\w'.cell? ⟨w.heap.size,1,none⟩=some (ae a len pc)) (first|(go_keep;done)|(refine M.out _ ?_;go_grown;done))
  ((go_at_call 101;refine(jj _ _).mono ?_;rintro D w1 ⟨rfl,rfl⟩))
 have X:Hid (aG (λa b=>aB (n+4) a (n+4) b) [bw uz (n+3),bw s (n+3)] ([bw uz (n+3),bw s (n+3)]++(p.take 0).map (dZ n))=true):=by
  show _=true;simp[aG,eC]
 have L:Hid (eK (n+4) B (w.heap.size+2) [bw uz (n+3),bw s (n+3)] (ae (some ⟨e.heap.size+1+1,0,none⟩) 2 2) e (((e.alloc (.cells #[ab 2,ab 0,af ⟨#[98,101,104]⟩,ae none 0 0] 31)).alloc (.cells #[ab 2,ab 0,af s,ae none 0 0] 31)).alloc (.cells #[ab 2,ab 0,af ⟨#[98,101,104]⟩,ae none 0 0,ab 2,ab 0,af s,ae none 0 0] 31)).drew):=by
  have h:=fF.lit (T:=31) (k:=4) (B:=B) (base:=w.heap.size+2) (eG (n+4)) [bw uz (n+3),bw s (n+3)] (w0:=e) (w1:=(e.alloc (.cells #[ab 2,ab 0,af ⟨#[98,101,104]⟩,ae none 0 0] 31)).alloc (.cells #[ab 2,ab 0,af s,ae none 0 0] 31)) (cs:= #[ab 2,ab 0,af ⟨#[98,101,104]⟩,ae none 0 0,ab 2,ab 0,af s,ae none 0 0]) rfl (pF _) (by show 2<=maxLen;unfold maxLen;omega) (by have:=j.out.2;simp;omega) (((aA _ _).alloc (by have:=j.out.2;omega) _).alloc (by have:=j.out.2;simp;omega) _) (λd m=>by
   simp only[cY,gX,hU]at m;rcases m with rfl|rfl
   ·exact⟨iI _ _ (oh _ (by decide)) _ _,o9 _ _ _⟩
   ·exact⟨iI _ _ ba _ _,o9 _ _ _⟩)
  have D:((e.alloc (.cells #[ab 2,ab 0,af ⟨#[98,101,104]⟩,ae none 0 0] 31)).alloc (.cells #[ab 2,ab 0,af s,ae none 0 0] 31)).heap.size=e.heap.size+1+1:=by simp
  rw[D]at h;exact h.later (eG _) (by have:=j.out.2;simp;omega) (aA _ _).drew
 have N:=ap (M.out _ (show am e (((e.alloc (.cells #[ab 2,ab 0,af ⟨#[98,101,104]⟩,ae none 0 0] 31)).alloc (.cells #[ab 2,ab 0,af s,ae none 0 0] 31)).alloc (.cells #[ab 2,ab 0,af ⟨#[98,101,104]⟩,ae none 0 0,ab 2,ab 0,af s,ae none 0 0] 31)).drew by go_grown));generalize ak:(((e.alloc _).alloc _).alloc _).drew=aY;rw[ak]at L N;have bH:ai aY w.heap.size 1 (ae a len pc):=N.out.2;clear ak M N aa ad;go_wp2_with fail;go_loopw [3,14] (λv R wr=>∃(k:Nat)(aO:au),k<=len/\R=ab k/\aO=v/\Hid (Q8 n B ([bw uz (n+3),bw s (n+3)]) p e (w.heap.size+2) k aO wr)) (λ_ R _=>len-(intOf R).toNat)
 case atStart=>exact⟨0,_,by omega,rfl,rfl,_,rfl,L.out,X.out⟩
 case round=>
  clear L X;obtain⟨k,v,bz,rfl,rfl,Y⟩:=hrel;obtain⟨t,q,i,W⟩:∃t:List (Tm (n+4)),Hid (t.length=k+2)/\Hid (eK (n+4) B (w.heap.size+2) t v e wr)/\Hid (aG (λa b=>aB (n+4) a (n+4) b) t (([bw uz (n+3),bw s (n+3)])++(p.take k).map (dZ n))=true):=Y.out;clear Y;have K:=ap (aP.out wr i.out.1);have an:w.heap.size+2<=wr.heap.size:=by have:=i.out.1.size;have:=j.out.2;omega
  by_cases a7:k<len
  ·obtain⟨d,m⟩:∃d,p[k]?=some d:=⟨p[k]'(by rw[aE.out];exact a7),aN _⟩;have aR:=ap (mJ (dZ n) p k d m);obtain⟨bd,po,rfl,bE,⟨⟨be,bf,bj,bk⟩,⟨bl,bm,bn,bo⟩,bp,bq,bg,bh,bi⟩,az⟩:=(kR (eP (n+1)) (K.out.mono a3) a9.out).cl k d m;have aj:B<=wr.heap.size:=by omega
   have aV:=ap m
   have V:Hid (∀w1,am wr w1->ao 142 #[.agg #[ab d.1.1.1.1,ab d.1.1.1.2.1,af d.1.1.1.2.2,ae d.1.1.2.1.1 d.1.1.2.2.length d.1.1.2.1.2,ab d.1.2.1.1.1,ab d.1.2.1.1.2.1,af d.1.2.1.1.2.2,ae d.1.2.1.2.1.1 d.1.2.1.2.2.length d.1.2.1.2.1.2,ae d.2.1.1 d.2.2.length d.2.1.2,ab d.1.2.2.1.1,ab d.1.2.2.1.2.1,af d.1.2.2.1.2.2,ae d.1.2.2.2.1.1 d.1.2.2.2.2.length d.1.2.2.2.1.2]] w1 (jh B (n+4) (dZ n d) w1)):=
    λw1 F=>wU n d B w1 ((eP (n+1)).below (F.mono aj) az) (a2.out d (aL aV.out)) (aF aj F.size)
   clear az m;generalize dZ n d=br at*;have bA:(0:Int)<=(k:Int):=by omega
   have bB:(k:Int)<(len:Int):=by omega
   have bF:bd<wr.heap.size:=by omega
   obtain⟨H,I,x⟩:=i.out.slice;rw[q.out]at x;subst x;go_wp2_with fail;refine(V.out _ aX).mono ?_;rintro D y ⟨f,rfl,C⟩;have J:Hid (am wr y):=aX.trans (C.out.1.mono (by simp));have E:dG (n+4) f=.agg #[ab f.1.1,ab f.1.2.1,af f.1.2.2,ae f.2.1.1 f.2.2.length f.2.1.2]:=rfl;rw[E];have aU:=λ(o:Obj)(g c:Nat)(w4:ag) a8 a6 a5=>ap (i.out.app q.out (by omega) an J.out f C.out.2.1 (C.out.2.2.1.mono λb Q=>by simp at Q;omega) (o:=o) (g:=g) (c:=c) (w4:=w4) a8 a6 a5);have bv:wr.heap.size<=y.heap.size:=J.out.size;clear E V be bf bj bk bl bm bn bo bp bq bg bh bi;go_wp2_with (at_builtin;refine wpList_append_lies _ rfl _ _ 29 rfl (w.heap.size+2) 31 bc _ 4 56 underlying29 A.out.1 A.out.2.1 A.out.2.2.1 A.out.2.2.2 rfl (by decide) (ae H (k+2) I) (k+2) (t.flatMap (iQ (n+4))) (by simp[Act.eval]) (i.out.own q.out J.out _) ⟨y.heap.size,0,none⟩ 1 1 (iQ (n+4) f) (by simp[Act.eval]) rfl (AL y (gK (n+4) f) rfl) (uP _ _) (by decide) (by unfold maxLen;omega) (by omega) (by simp;omega) (y.heap.size+1) (by simp) ?_;intro a1 aZ w4 aD av al bC;have aT:=aU _ a1 aZ w4 aD av al;clear aD av al);go_roundw
   case rel=>exact⟨k+1,_,by omega,by go_num,rfl,t++ [f],by have:=q.out;simp;omega,aT.out,by rw[aR.out,<-lg];exact jv _ _ _ _ _ W.out C.out.2.2.2⟩
   case measure=>simp[intOf];omega
  ·obtain rfl:k=len:=by omega
   obtain⟨H,I,x⟩:=i.out.slice;rw[q.out]at x;subst x;have r:=ap ((i.out.1.block (w.heap.size+1) (by omega)).trans O.out);have d0:wr.cell? ⟨w.heap.size+1,0,none⟩=some (ab 0):=ax r.out 0;have d1:wr.cell? ⟨w.heap.size+1,1,none⟩=some (ab 0):=ax r.out 1;have d2:wr.cell? ⟨w.heap.size+1,2,none⟩=some (af ⟨#[]⟩):=ax r.out 2;have d3:wr.cell? ⟨w.heap.size+1,3,none⟩=some (ae none 0 0):=ax r.out 3;have f0:=λG=>dm r.out G;have u:w.heap.size+1<wr.heap.size:=by omega
   have aQ:=λ(aW w':ag) Q F bb=>ap (eK.tells (w:=w) (ys:=([bw uz (n+3),bw s (n+3)])++p.map (dZ n)) (w':=w') (i.out.later (eG _) an (w1:=aW) Q) (by omega) (by have h:=W.out;rw[bD (by rw[aE.out];omega)]at h;exact h) F bb);clear r O;go_wp2_with (go_at_call 103;refine(gh _ _ _ _).mono ?_;rintro D S ⟨rfl,aM⟩;have l:=ap (show am wr S by rw[aM];go_grown);clear aM;replace d0:=(aw l.out _ _ u).trans d0;replace d1:=(aw l.out _ _ u).trans d1;replace d2:=(aw l.out _ _ u).trans d2;replace d3:=(aw l.out _ _ u).trans d3;replace f0:=λG=>(ig l.out _ G u).trans (f0 G));refine ay (v:=.agg #[ab 4,ab 0,af ⟨#[]⟩,ae H (k+2) I]) (by simp[results,results102,go_sem,d0,d1,d2,d3]) rfl ?_;rw[a4.out];obtain⟨bs,bt,ah,U⟩:=(aQ S (df S (w.heap.size+1) 0 (ab 4) (ab 0) (af ⟨#[]⟩) (ae H (k+2) I)) l.out (Ap (by omega) (by omega) (aA _ _)) (dT (bG _ _ _ _).symm)).out (dW (K.out.trans (l.out.mono K.out.size)) (by omega));rw[q.out]at ah U;injection ah with a0 bu E;subst a0 E;exact U
theorem sB(n:Nat)(b:Bh (n+1))(B:Nat)(w:ag)(a:pY (n+1) B w b)(f:b.2.2.length<=6)(g:∀c∈b.2.2,c.2.2.length<=8)(h:B<=w.heap.size):ao 102 #[.agg (p7 (n+1) b).toArray] w (jh B (n+5) (eu n b) w):=by
 obtain⟨i,⟨e,pc⟩,d⟩:=b;exact qW n i a.1 d d.length rfl f g e pc B w a.2.2 h _ rfl
def Ra(n B:Nat)(d:List (Tm (n+5)))(p:List (Bh (n+1)))(w0:ag)(base k:Nat)(v:au)(wr:ag):Prop:=
 ∃a,a.length=k+1/\eK (n+5) B base a v w0 wr/\aG (λc b=>aB (n+5) c (n+5) b) a (d++(p.take k).map (eu n))=true
theorem tu(n:Nat)(p:List (Bh (n+1)))(len:Nat)(aq:Hid (p.length=len))(bd:len<=7)(Y:Hid (∀b∈p,b.2.2.length<=6/\∀c∈b.2.2,c.2.2.length<=8))(a:ar)(pc:Nat)(B:Nat)(w:ag)(a1:Hid (gL (n+1) B w a p))(aU:B<=w.heap.size)(W:Tm (n+6))(aV:Hid (W=cm n p)):ao 66 #[ae a len pc] w (jh B (n+6) W w):=by
 obtain⟨a3,al,av,az,aC⟩:=bY gO;have y:=ap (⟨al,av,az,aC⟩:_/\_/\_/\_);clear al av az aC;go_enter func66,ntmps66;go_wp2_with (go_at_call 101;refine(jj _ _).mono ?_;rintro A w1 ⟨rfl,rfl⟩);have K:=ap (aD w (.cells #[ab 0,ab 0,af ⟨#[]⟩,ae none 0 0] 31));have S:Hid (aG (λa b=>aB (n+5) a (n+5) b) [bw ov (n+4)] ([bw ov (n+4)]++(p.take 0).map (eu n))=true):=by
  show _=true;simp[aG,eC]
 generalize L:w.alloc (.cells #[ab 0,ab 0,af ⟨#[]⟩,ae none 0 0] 31)=e;rw[L]at K;have s:Hid (am w e/\e.heap.size=w.heap.size+1):=by
  subst L;exact⟨aS _ _,by simp⟩
 have aI:Hid (∀wr,Below (w.heap.size+1) e wr->am w wr):=λwr j=>s.out.1.trans (j.mono (by omega));clear L;have J:Hid (eK (n+5) B (w.heap.size+1) [bw ov (n+4)] (ae (some ⟨w.heap.size+1+1,0,none⟩) 1 1) e ((e.alloc (.cells #[ab 2,ab 0,af ⟨#[99,111,100,101]⟩,ae none 0 0] 31)).alloc (.cells #[ab 2,ab 0,af ⟨#[99,111,100,101]⟩,ae none 0 0] 31))):=by
  have j:=fF.lit (T:=31) (k:=4) (B:=B) (base:=w.heap.size+1) (eG (n+5)) [bw ov (n+4)] (w0:=e) (w1:=e.alloc (.cells #[ab 2,ab 0,af ⟨#[99,111,100,101]⟩,ae none 0 0] 31)) (cs:= #[ab 2,ab 0,af ⟨#[99,111,100,101]⟩,ae none 0 0]) rfl (pF _) (by show 1<=maxLen;unfold maxLen;omega) (by have:=s.out.2;simp;omega) ((aA _ _).alloc (by have:=s.out.2;omega) _) (λd l=>by
   simp only[cY,gX,hU]at l;subst l
   exact⟨iI _ _ (oh _ (by decide)) _ _,o9 _ _ _⟩)
  have A:(e.alloc (.cells #[ab 2,ab 0,af ⟨#[99,111,100,101]⟩,ae none 0 0] 31)).heap.size=w.heap.size+1+1:=by have:=s.out.2;simp;omega
  rw[A]at j;exact j
 generalize aa:(e.alloc _).alloc _=a7;rw[aa]at J;clear aa;go_loopw [3,10] (λv N wr=>∃(k:Nat)(aH:au),k<=len/\N=ab k/\aH=v/\Hid (Ra n B ([bw ov (n+4)]) p e (w.heap.size+1) k aH wr)) (λ_ N _=>len-(intOf N).toNat)
 case atStart=>exact⟨0,_,by omega,rfl,rfl,_,rfl,J.out,S.out⟩
 case round=>
  clear J S;obtain⟨k,v,be,rfl,rfl,U⟩:=hrel;obtain⟨r,m,h,R⟩:∃r:List (Tm (n+5)),Hid (r.length=k+1)/\Hid (eK (n+5) B (w.heap.size+1) r v e wr)/\Hid (aG (λa b=>aB (n+5) a (n+5) b) r (([bw ov (n+4)])++(p.take k).map (eu n))=true):=U.out;clear U;have I:=ap (aI.out wr h.out.1);have ah:w.heap.size+1<=wr.heap.size:=by have:=h.out.1.size;have:=s.out.2;omega
  by_cases aZ:k<len
  ·obtain⟨d,l⟩:∃d,p[k]?=some d:=⟨p[k]'(by rw[aq.out];exact aZ),aN _⟩;have aK:=ap (mJ (eu n) p k d l);obtain⟨a4,po,rfl,bj,⟨a5,a6⟩,ak⟩:=(gL.below (I.out.mono aU) a1.out).bh k d l;have Z:B<=wr.heap.size:=by omega
   have V:=ap l
   have Q:Hid (∀w1,am wr w1->ao 102 #[.agg #[af d.1,ae d.2.1.1 d.2.2.length d.2.1.2]] w1 (jh B (n+5) (eu n d) w1)):=
    λw1 D=>sB n d B w1 ((eD (n+1)).below (D.mono Z) ak) (Y.out d (aL V.out)).1 (Y.out d (aL V.out)).2 (aF Z D.size)
   clear ak l;generalize eu n d=a8 at*;have bf:(0:Int)<=(k:Int):=by omega
   have bg:(k:Int)<(len:Int):=by omega
   have bk:a4<wr.heap.size:=by omega
   obtain⟨F,G,u⟩:=h.out.slice;rw[m.out]at u;subst u;go_wp2_with fail;refine(Q.out _ aX).mono ?_;rintro A x ⟨f,rfl,z⟩;have H:Hid (am wr x):=aX.trans (z.out.1.mono (by simp));have C:dG (n+5) f=.agg #[ab f.1.1,ab f.1.2.1,af f.1.2.2,ae f.2.1.1 f.2.2.length f.2.1.2]:=rfl;rw[C];have aO:=λ(o:Obj)(g c:Nat)(w4:ag) a0 aY aW=>ap (h.out.app m.out (by omega) ah H.out f z.out.2.1 (z.out.2.2.1.mono λb M=>by simp at M;omega) (o:=o) (g:=g) (c:=c) (w4:=w4) a0 aY aW);have bc:wr.heap.size<=x.heap.size:=H.out.size;clear C Q a5 a6;go_wp2_with (at_builtin;refine wpList_append_lies _ rfl _ _ 29 rfl (w.heap.size+1) 31 a3 _ 4 56 underlying29 y.out.1 y.out.2.1 y.out.2.2.1 y.out.2.2.2 rfl (by decide) (ae F (k+1) G) (k+1) (r.flatMap (iQ (n+5))) (by simp[Act.eval]) (h.out.own m.out H.out _) ⟨x.heap.size,0,none⟩ 1 1 (iQ (n+5) f) (by simp[Act.eval]) rfl (AL x (gK (n+5) f) rfl) (uP _ _) (by decide) (by unfold maxLen;omega) (by omega) (by simp;omega) (x.heap.size+1) (by simp) ?_;intro aT aQ w4 an aj ad bi;have aM:=aO _ aT aQ w4 an aj ad;clear an aj ad);go_roundw
   case rel=>exact⟨k+1,_,by omega,by go_num,rfl,r++ [f],by have:=m.out;simp;omega,aM.out,by rw[aK.out,<-lg];exact jv _ _ _ _ _ R.out z.out.2.2.2⟩
   case measure=>simp[intOf];omega
  ·obtain rfl:k=len:=by omega
   obtain⟨F,G,u⟩:=h.out.slice;rw[m.out]at u;subst u;have q:=ap ((h.out.1.block (w.heap.size) (by omega)).trans K.out);have d0:ai wr w.heap.size 0 (ab 0):=ax q.out 0;have d1:ai wr w.heap.size 1 (ab 0):=ax q.out 1;have d2:ai wr w.heap.size 2 (af ⟨#[]⟩):=ax q.out 2;have d3:ai wr w.heap.size 3 (ae none 0 0):=ax q.out 3;have f0:=λE=>dm q.out E;have t:w.heap.size<wr.heap.size:=by omega
   have aJ:=λ(aP w':ag) M D a2=>ap (eK.tells (w:=w) (ys:=([bw ov (n+4)])++p.map (eu n)) (w':=w') (h.out.later (eG _) ah (w1:=aP) M) (by omega) (by have j:=R.out;rw[bD (by rw[aq.out];omega)]at j;exact j) D a2);clear q K;go_wp2_with (go_at_call 103;refine(gh _ _ _ _).mono ?_;rintro A O ⟨rfl,aE⟩;have i:=ap (show am wr O by rw[aE];go_grown);clear aE;replace d0:=(aw i.out _ _ t).trans d0;replace d1:=(aw i.out _ _ t).trans d1;replace d2:=(aw i.out _ _ t).trans d2;replace d3:=(aw i.out _ _ t).trans d3;replace f0:=λE=>(ig i.out _ E t).trans (f0 E));refine ay (v:=.agg #[ab 4,ab 0,af ⟨#[]⟩,ae F (k+1) G]) (by simp[results,results66,go_sem,d0,d1,d2,d3]) rfl ?_;rw[aV.out];obtain⟨a9,ba,X,P⟩:=(aJ O (df O (w.heap.size) 0 (ab 4) (ab 0) (af ⟨#[]⟩) (ae F (k+1) G)) i.out (Ap (by omega) (by omega) (aA _ _)) (dT (bG _ _ _ _).symm)).out (dW (I.out.trans (i.out.mono I.out.size)) (by omega));rw[m.out]at X P;injection X with aR bb C;subst aR C;exact P
theorem uy(n:Nat)(p:List (Bh (n+1)))(a:ar)(pc:Nat)(B:Nat)(w:ag)(g:gL (n+1) B w a p)(d:p.length<=7)(e:∀b∈p,b.2.2.length<=6/\∀c∈b.2.2,c.2.2.length<=8)(f:B<=w.heap.size):ao 66 #[ae a p.length pc] w (jh B (n+6) (cm n p) w):=
 tu n p p.length rfl d e a pc B w g f _ rfl
def zT(N:Nat):Tm (N+1):=((0,0,.empty),(none,0),[])
def mK(n:Nat)(p:List (Bh (n+1))):Int:=if kT (n+1) p then bJ (n+6) (cm n p)else 5
def L0(n:Nat)(p:List (Bh (n+1))):Tm (n+6):=if mK n p=0 then cm n p else zT (n+5)
def JK(B n:Nat)(p:List (Bh (n+1)))(w:ag)(e:Ending)(w':ag):Prop:=
 ∃a:Tm (n+6),e=.returned (.tuple #[dG (n+6) a,ab (mK n p)])/\Hid (am w w'/\In w'.heap.size w' (n+6) a/\cD (λb=>b<B\/w.heap.size<=b) (n+6) a/\aB (n+6) a (n+6) (L0 n p)=true)
theorem lW(N B:Nat)(w:ag):In B w (N+1) (zT N):=⟨⟨by simp[zT,dN],by simp[zT,dN],aM _,by simp[zT],by simp[zT]⟩,aj rfl⟩
theorem Gq{B n:Nat}{p:List (Bh (n+1))}{w w':ag}{k:Int}(b:am w w')(c:k=mK n p)(a:¬k=0):JK B n p w (.returned (.tuple #[.agg #[ab 0,ab 0,af .empty,ae none 0 0],ab k])) w':=by
 subst c;refine⟨zT (n+5),rfl,b,lW _ _ _,aj rfl,?_⟩;unfold L0;rw[if_neg a];exact mn (lW _ 0 w)
theorem yA{n:Nat}{p:List (Bh n)}(a:kT n p=true):p.length<=7/\∀b∈p,b.2.2.length<=6/\∀c∈b.2.2,c.2.2.length<=8:=by
 simp only[kT,xo,uf,aK,cw,cJ]at a;refine⟨by omega,λb d=>⟨by have:=(a.2 b d).1.2;omega,λc e=>by have:=((a.2 b d).2 c e).1;omega⟩⟩
theorem rG(w:ag)(v0 v1 v2 v3:au)(t:TypeId){w':ag}(a:Below (w.alloc (.cells #[v0,v1,v2,v3] t)).heap.size (w.alloc (.cells #[v0,v1,v2,v3] t)) w'):w'.heap[w.heap.size]?=some (.cells #[v0,v1,v2,v3] t):=
 (a.block _ (by simp)).trans (aD w _)
theorem L5(n:Nat)(p:List (Bh (n+1)))(a:ar)(pc:Nat)(aw:p.length<=pc)(ah:pc<=maxLen)(B:Nat)(w:ag)(L:gL (n+1) B w a p)(A:B<=w.heap.size)(ad:kT (n+1) p=true->(aC (n+6) (cm n p)).length<=2097152):ao 37 #[ae a p.length pc] w (JK B n p w):=by
 have Q:Hid (∀f,am w f->ao 65 #[ae a p.length pc] f λk m=>k=.returned (.bool (kT (n+1) p))/\am f m):=
  λf s=>qm n p p.length rfl a pc B f (L.below (s.mono A)) (by unfold maxLen at ah;omega) (aF A s.size)
 have G:Hid (kT (n+1) p=true->∀f,am w f->ao 66 #[ae a p.length pc] f (jh B (n+6) (cm n p) f)):=
  λs f z=>uy n p a pc B f (L.below (z.mono A)) (yA s).1 (yA s).2 (aF A z.size)
 have x:Hid (mK n p=if kT (n+1) p then bJ (n+6) (cm n p)else 5):=rfl;have R:=ap ad;have T:Hid (L0 n p=if mK n p=0 then cm n p else zT (n+5)):=rfl;clear L ad aw ah;generalize p.length=len at*;generalize kT (n+1) p=aG at*;go_enter func37,ntmps37;go_wp2_with fail;refine(Q _ aX).mono ?_;rintro k f ⟨rfl,J⟩;have h:=ap (rG w _ _ _ _ _ J);have r:Hid (am w f):=aX.trans (J.mono (by simp));have az:w.heap.size<f.heap.size:=(aI.1 h).1;clear J Q;cases aG
 ·have d0:ai f w.heap.size 0 (ab 0):=ax h 0;have d1:ai f w.heap.size 1 (ab 0):=ax h 1;have d2:ai f w.heap.size 2 (af ⟨#[]⟩):=ax h 2;have d3:ai f w.heap.size 3 (ae none 0 0):=ax h 3;have f0:=λu=>dm h u;clear G h;go_wp2_with fail;exact ay (v:=.tuple #[.agg #[ab 0,ab 0,af .empty,ae none 0 0],ab 5]) (by simp[results,results37,go_sem,d0,d1,d2,d3];rfl) rfl (Gq (dW r (av _)) (by rw[x.out];rfl) (by omega))
 ·have S:=ap (G rfl f r);go_wp2_with fail;refine S.mono ?_;rintro k g ⟨d,rfl,j⟩;have M:Hid (am w g):=r.trans (j.1.mono r.size);have Y:dG (n+6) d=.agg #[ab d.1.1,ab d.1.2.1,af d.1.2.2,ae d.2.1.1 d.2.2.length d.2.1.2]:=rfl;have O:Hid (∀e,am g e->ao 53 #[.agg #[ab d.1.1,ab d.1.2.1,af d.1.2.2,ae d.2.1.1 d.2.2.length d.2.1.2]] e λk m=>k=.returned (ab (mK n p))/\am e m):=λe t=>by
   have:=eq (n+6) d g.heap.size e (j.2.1.below t) t.size (by rw[kX _ _ _ _ j.out.2.2.2];exact R (by simp));rw[cd j.out.2.2.2]at this;rw[x.out];exact this
  have F:Hid (mK n p=0->∀e,am g e->ao 56 #[.agg #[ab d.1.1,ab d.1.2.1,af d.1.2.2,ae d.2.1.1 d.2.2.length d.2.1.2]] e λk m=>∃c:Tm (n+6),k=.returned (dG (n+6) c)/\Hid (am e m/\In m.heap.size m (n+6) c/\cD (λaE=>e.heap.size<=aE) (n+6) c/\aB (n+6) c (n+6) d=true)):=λaq e t=>
   iL (n+6) d g.heap.size e (j.2.1.below t) t.size (aU.2 (by have z:bJ (n+6) (cm n p)=0:=(by simpa [x.out]using aq);rw[jW _ _ _ _ j.out.2.2.2];exact(bM.1 z).1))
  have an:=ap j.2.2.2;have H:=ap ((j.1.block _ az).trans h);have aA:w.heap.size<g.heap.size:=(aI.1 H).1;rw[Y];clear G S h r j Y R;generalize aa:mK n p=C at*;have P:=ap aa;clear aa x;go_wp2_with fail;refine(O _ aX).mono ?_;rintro k e ⟨rfl,K⟩;have E:Hid (am g e):=aX.trans (K.mono (by simp));have D:Hid (am w e):=M.trans (E.mono M.size);have y:=ap (rG g _ _ _ _ _ K);have i:=ap ((E.block _ aA).trans H);have aD:w.heap.size<e.heap.size:=(aI.1 i).1;have U:ai e g.heap.size 0 (ab d.1.1):=ax y 0;have V:ai e g.heap.size 1 (ab d.1.2.1):=ax y 1;have W:ai e g.heap.size 2 (af d.1.2.2):=ax y 2;have X:ai e g.heap.size 3 (ae d.2.1.1 d.2.2.length d.2.1.2):=ax y 3;clear K O H;by_cases I:C=0
  ·subst I;have aj:=ap (F rfl e E);clear F;go_wp2_with fail;refine aj.mono ?_;rintro k q ⟨c,rfl,l⟩;have o:=ap ((l.1.block _ aD).trans i);have N:Hid (am w q):=D.trans (l.1.mono D.size);have d0:ai q w.heap.size 0 (ab 0):=ax o 0;have d1:ai q w.heap.size 1 (ab 0):=ax o 1;have d2:ai q w.heap.size 2 (af ⟨#[]⟩):=ax o 2;have d3:ai q w.heap.size 3 (ae none 0 0):=ax o 3;have f0:=λu=>dm o u;have Z:dG (n+6) c=.agg #[ab c.1.1,ab c.1.2.1,af c.1.2.2,ae c.2.1.1 c.2.2.length c.2.1.2]:=rfl;rw[Z];have al:Hid (JK B n p w (.returned (.tuple #[.agg #[ab c.1.1,ab c.1.2.1,af c.1.2.2,ae c.2.1.1 c.2.2.length c.2.1.2],ab 0])) (df q w.heap.size 0 (ab c.1.1) (ab c.1.2.1) (af c.1.2.2) (ae c.2.1.1 c.2.2.length c.2.1.2))):=by
    refine⟨c,by rw[P.out];rfl,dW N (av _),?_,l.2.2.1.mono λb au=>ak (by omega),?_⟩
    ·rw[bG];exact In.off (λb au=>bm (by omega) _ _ _ _) l.2.2.1 l.2.1
    ·rw[show L0 n p=cm n p from by simpa using T.out];exact bS _ _ _ _ _ _ l.2.2.2 an
   clear o i l N U V W X Z T;go_wp2_with fail;exact ay (v:=.tuple #[.agg #[ab c.1.1,ab c.1.2.1,af c.1.2.2,ae c.2.1.1 c.2.2.length c.2.1.2],ab 0]) (by simp[results,results37,go_sem,d0,d1,d2,d3]) rfl al
  ·have d0:ai e w.heap.size 0 (ab 0):=ax i 0;have d1:ai e w.heap.size 1 (ab 0):=ax i 1;have d2:ai e w.heap.size 2 (af ⟨#[]⟩):=ax i 2;have d3:ai e w.heap.size 3 (ae none 0 0):=ax i 3;have f0:=λu=>dm i u;have aH:(C !=0)=true:=by simpa using I
   clear i F U V W X;go_wp2_with fail;exact ay (v:=.tuple #[.agg #[ab 0,ab 0,af .empty,ae none 0 0],ab C]) (by simp[results,results37,go_sem,d0,d1,d2,d3];rfl) rfl (Gq (dW D (av _)) P.symm I)
theorem eK.ownAt{N B base k:Nat}{xs:List (Tm N)}{v:au}{w0 wr W:ag}(a:eK N B base xs v w0 wr)(c:xs.length=k)(b:am wr W):W.ownsRow base 31 4 v k (xs.flatMap (iQ N)):=by
 subst c;exact ez a.2.1 b
theorem eK.appAt{N B base k:Nat}{xs:List (Tm N)}{v:au}{w0 wr W w4:ag}{g c:Nat}(d:eK N B base xs v w0 wr)(n:xs.length=k)(f:B<=base)(l:base<=wr.heap.size)(e:am wr W)(a:Tm N)(i:In W.heap.size W N a)(h:cD (λb=>b<B\/wr.heap.size<=b) N a)(o:w4.ownsRow base 31 4 (ae (some ⟨g,0,none⟩) (k+1) c) (k+1) (xs.flatMap (iQ N)++iQ N a))(m:W.grownBy w4 v.ownBlock)(j:v.ownBlock=some g\/g=W.heap.size):eK N B base (xs++ [a]) (ae (some ⟨g,0,none⟩) (k+1) c) w0 w4:=by
 subst n;exact fF.step (eG N) d f l e a i h o m j
theorem rX(a:ag)(o:Obj){g:Nat}(b:g=a.heap.size):(a.alloc o).drew.heap[g]?=some o:=by
 subst b;exact aD a o
theorem yt(a:ag)(o:Obj){g:Nat}(b:g=a.heap.size):(a.alloc o).heap[g]?=some o:=by
 subst b;exact aD a o
def PL(b:Nat)(name:aq)(a:Wd)(mv:au):cN:=⟨b,1,[af name],[ab a.1,ab a.2,mv],111⟩
def j0(Mh:aO)(ma:ar)(vs:List Wd)(a:Nat)(w:ag):Prop:=
 (ma=none/\vs=[]/\a=0)\/∃c d b,ma=some ⟨c,d,none⟩/\¬Mh c/\w.heap[c]?=some (.cells b 109 (0,0))/\vs.length<=a/\a<=maxLen/\d+a*2<=b.size/\(b.toList.drop d).take (vs.length*2)=bq vs
def kA(N:Nat)(ws:List Wd)(nm:br)(room:Int)(b:List Wd)(a:List (Tm N)):Prop:=
 ic ws nm N b a/\(b.flatMap (pB ws N)).Nodup/\(∀c∈a,bJ N c=0/\aT N c=true)/\(a.map (sz N)).sum<=(ws.length:Int)/\(ws.length:Int)<=room/\0<=room/\room<=1000/\nm.Nodup
structure cV (base pb:Nat) (name:aq) (room:Int) (N:Nat) (s:Tm N) (ms:List (Tm N)) (xs:List (Wd×Tm N)) (nk:Nat) (M:aO) (w:ag) (ws:List Wd) (nm:br) (sv:Wd) (vs:List Wd) (ma:ar) (mc:Nat) (Mh:aO):Prop where
 heap:eh base (PL pb name sv (ae ma vs.length mc)) room ws nm Mh w
 mail:j0 Mh ma vs mc w
 has:kA N ws nm room (sv::vs++xs.map (·.1)) (s::ms++xs.map (·.2))
 len:vs.length=ms.length
 names:nm.length<=nk
 inM:∀b,Mh b->M b
 mailM:∀a,ma=some a->M a.block
theorem eh.box{base:Nat}{b:cN}{room:Int}{ws:List Wd}{nm:br}{M:aO}{w:ag}(e:eh base b room ws nm M w):∃tv lv mv,HB b room tv lv mv w/\∃h i,tv=ae h ws.length i:=by
 obtain⟨tv,lv,mv,f,g,_⟩:=e;refine⟨tv,lv,mv,f,?_⟩;rcases g.2 with⟨a,d⟩|⟨k,c,j,a,_⟩
 ·exact⟨none,0,by rw[a,d]⟩
 ·exact⟨_,c,a⟩
theorem PL.cells{a:Nat}{name:aq}{b:Wd}{mv:au}{room:Int}{tv lv mp:au}{w:ag}(d:HB (PL a name b mv) room tv lv mp w):w.cell? ⟨a,0,none⟩=some (af name)/\w.cell? ⟨a,5,none⟩=some (ab b.1)/\w.cell? ⟨a,5+1,none⟩=some (ab b.2)/\w.cell? ⟨a,7,none⟩=some mv/\(∀j,w.frozen? ⟨a,j,none⟩=false)/\a<w.heap.size:=by
 have c:w.heap[a]?=some (.cells #[af name,ab room,tv,lv,mp,ab b.1,ab b.2,mv] 111):=d.2;refine⟨?_,?_,?_,?_,λj=>?_,(aI.1 c).1⟩
 all_goals simp[World.cell?,World.frozen?,c]
def nM(N:Nat)(x:Tm N)(w:ag)(e:Ending)(w':ag):Prop:=∃y:Tm N,e=.returned (dG N y)/\Hid (am w w'/\In w'.heap.size w' N y/\cD (λq=>w.heap.size<=q) N y/\aB N y N x=true)
theorem IQ(P N:Nat)(x:Tm (N+1))(v:Wd)(w:ag)(K:Hid (∀w1,am w w1->ao 99 #[.pointer (some ⟨P,1,none⟩),.agg #[ab v.1,ab v.2]] w1 λe w'=>∃y:Tm (N+1),e=.returned (.tuple #[.agg #[ab y.1.1,ab y.1.2.1,af y.1.2.2,ae y.2.1.1 y.2.2.length y.2.1.2],ab 0])/\Hid (am w1 w'/\In w'.heap.size w' (N+1) y/\cD (λq=>w1.heap.size<=q) (N+1) y/\aB (N+1) y (N+1) x=true))):ao 64 #[aH P,.agg #[ab v.1,ab v.2]] w (nM (N+1) x w):=by
 go_enter func64,ntmps64;go_wp2_with fail;have B:=ap (kK w (.cells #[ab v.1,ab v.2] 109) (.cells #[ab 0,ab 0,af ⟨#[]⟩,ae none 0 0] 31));have f:Hid (am w ((w.alloc (.cells #[ab v.1,ab v.2] 109)).alloc (.cells #[ab 0,ab 0,af ⟨#[]⟩,ae none 0 0] 31))/\((w.alloc (.cells #[ab v.1,ab v.2] 109)).alloc (.cells #[ab 0,ab 0,af ⟨#[]⟩,ae none 0 0] 31)).heap.size=w.heap.size+1+1):=⟨by go_grown,by simp⟩;generalize M:(w.alloc _).alloc _=a;rw[M]at B f;clear M;have T:a.heap.size=w.heap.size+1+1:=f.2;have p:Hid (∀w',am a w'->ai w' w.heap.size 0 (ab v.1)/\ai w' w.heap.size 1 (ab v.2)):=λw' S=>by
  have L:=(S.block w.heap.size (by omega)).trans B.1;exact⟨ax L 0,ax L 1⟩
 obtain⟨aq,ar⟩:=p.out a (aA _ _);have z:Hid (am a a.drew):=(aA _ _).drew;have A:Hid (am a (a.alloc (.cells #[ab 0,ab 0,af ⟨#[]⟩,ae none 0 0] 31)).drew):=(show Below _ _ _ by go_grown);have F:Hid ((a.alloc (.cells #[ab 0,ab 0,af ⟨#[]⟩,ae none 0 0] 31)).drew.heap[a.heap.size]?=some (.cells #[ab 0,ab 0,af ⟨#[]⟩,ae none 0 0] 31)/\(a.alloc (.cells #[ab 0,ab 0,af ⟨#[]⟩,ae none 0 0] 31)).drew.heap.size=a.heap.size+1):=⟨rX a _ rfl,by simp⟩;clear T
 go_region_held3 (λw'=>w'.cell? ⟨w.heap.size,0,none⟩=some (ab v.1)/\w'.cell? ⟨w.heap.size,1,none⟩=some (ab v.2)) (first|(go_keep;done)|with_reducible exact p _ z|with_reducible exact p _ A|exact p _ h|exact E _|exact Q _ _ _ _|exact R _ _ _ _ _)
  ((first
   | (go_at_call 99;refine(K _ (f.1.trans (z.mono f.1.size))).mono ?_;rintro e w1 ⟨y,rfl,l⟩;have h:=ap (z.trans (l.1.mono z.size));have E:Hid (∀o:Obj,(w1.alloc o).cell? ⟨w.heap.size,0,none⟩=some (ab v.1)/\(w1.alloc o).cell? ⟨w.heap.size,1,none⟩=some (ab v.2)):=λo=>p _ (h.trans (aX.mono h.size));have R:Hid (∀(o:Obj)(m b c n:au),(df (w1.alloc o) w1.heap.size 0 m b c n).cell? ⟨w.heap.size,0,none⟩=some (ab v.1)/\(df (w1.alloc o) w1.heap.size 0 m b c n).cell? ⟨w.heap.size,1,none⟩=some (ab v.2)):=λo m b c n=>by have an:=h.size;have D:=f.2;exact⟨(bH (bm (by omega) m b c n) 0).trans (E o).1,(bH (bm (by omega) m b c n) 1).trans (E o).2⟩)
   | (go_at_call 99;refine(K _ (f.1.trans (A.mono f.1.size))).mono ?_;rintro e w1 ⟨y,rfl,l⟩;have h:=ap (A.trans (l.1.mono A.size));have r:=ap ((l.1.block _ (by have:=F.2;omega)).trans F.1);have ad:ai w1 a.heap.size 0 (ab 0):=ax r 0;have ah:ai w1 a.heap.size 1 (ab 0):=ax r 1;have aj:ai w1 a.heap.size 2 (af ⟨#[]⟩):=ax r 2;have ak:ai w1 a.heap.size 3 (ae none 0 0):=ax r 3;have al:=λu=>dm r u;have Q:Hid (∀m b c n:au,(df w1 a.heap.size 0 m b c n).cell? ⟨w.heap.size,0,none⟩=some (ab v.1)/\(df w1 a.heap.size 0 m b c n).cell? ⟨w.heap.size,1,none⟩=some (ab v.2)):=λm b c n=>⟨(bH (bm (by have:=f.2;omega) m b c n) 0).trans (p _ h).1,(bH (bm (by have:=f.2;omega) m b c n) 1).trans (p _ h).2⟩)))
 ·have D:=f.2;have i:Hid ((w1.alloc (.cells #[ab y.1.1,ab y.1.2.1,af y.1.2.2,ae y.2.1.1 y.2.2.length y.2.1.2] 31)).heap[w.heap.size+1]?=some (.cells #[ab 0,ab 0,af ⟨#[]⟩,ae none 0 0] 31)):=(aX.block _ (by have:=h.size;omega)).trans ((h.block _ (by omega)).trans B.2);have k:Hid ((w1.alloc (.cells #[ab y.1.1,ab y.1.2.1,af y.1.2.2,ae y.2.1.1 y.2.2.length y.2.1.2] 31)).heap[w1.heap.size]?=some (.cells #[ab y.1.1,ab y.1.2.1,af y.1.2.2,ae y.2.1.1 y.2.2.length y.2.1.2] 31)):=aD _ _;have j:Hid (am w (w1.alloc (.cells #[ab y.1.1,ab y.1.2.1,af y.1.2.2,ae y.2.1.1 y.2.2.length y.2.1.2] 31))/\In (w1.alloc (.cells #[ab y.1.1,ab y.1.2.1,af y.1.2.2,ae y.2.1.1 y.2.2.length y.2.1.2] 31)).heap.size (w1.alloc (.cells #[ab y.1.1,ab y.1.2.1,af y.1.2.2,ae y.2.1.1 y.2.2.length y.2.1.2] 31)) (N+1) y/\cD (λq=>w.heap.size+2<=q) (N+1) y):=⟨(f.1.trans (h.mono f.1.size)).trans (aX.mono (f.1.trans (h.mono f.1.size)).size),(l.2.1.below aX).mono (by simp),l.2.2.1.mono λq (C:a.heap.size<=q)=>by omega⟩;have s:Hid (∃d,d=(w1.alloc (.cells #[ab y.1.1,ab y.1.2.1,af y.1.2.2,ae y.2.1.1 y.2.2.length y.2.1.2] 31))):=⟨_,rfl⟩;obtain⟨d,t⟩:=s.out;rw[<-t]at i k j ⊢;clear t s D;have G:d.cell? ⟨w.heap.size+1,0,none⟩=some (ab 0):=ax i 0;have H:d.cell? ⟨w.heap.size+1,1,none⟩=some (ab 0):=ax i 1;have I:d.cell? ⟨w.heap.size+1,2,none⟩=some (af ⟨#[]⟩):=ax i 2;have J:d.cell? ⟨w.heap.size+1,3,none⟩=some (ae none 0 0):=ax i 3;have Z:=λu=>dm i u;have V:ai d w1.heap.size 0 (ab y.1.1):=ax k 0;have W:ai d w1.heap.size 1 (ab y.1.2.1):=ax k 1;have X:ai d w1.heap.size 2 (af y.1.2.2):=ax k 2;have Y:ai d w1.heap.size 3 (ae y.2.1.1 y.2.2.length y.2.1.2):=ax k 3;go_wp2_with fail;refine ay (v:=.agg #[ab y.1.1,ab y.1.2.1,af y.1.2.2,ae y.2.1.1 y.2.2.length y.2.1.2]) (by simp[results,results64,go_sem,G,H,I,J]) rfl ?_;refine⟨y,rfl,dW j.1 (by omega),?_,j.2.2.mono λq C=>by omega,l.2.2.2⟩;have e:=In.off (w':=df d (w.heap.size+1) 0 (ab y.1.1) (ab y.1.2.1) (af y.1.2.2) (ae y.2.1.1 y.2.2.length y.2.1.2)) (λb (O:w.heap.size+2<=b)=>bm (by omega) _ _ _ _) j.2.2 j.2.1;rw[<-bG (w:=d) (g:=w.heap.size+1) (o:=0) (ab y.1.1) (ab y.1.2.1) (af y.1.2.2) (ae y.2.1.1 y.2.2.length y.2.1.2)]at e;exact e
 ·have D:=f.2;have U:=F.2;have i:Hid ((df w1 a.heap.size 0 (ab y.1.1) (ab y.1.2.1) (af y.1.2.2) (ae y.2.1.1 y.2.2.length y.2.1.2)).heap[w.heap.size+1]?=some (.cells #[ab 0,ab 0,af ⟨#[]⟩,ae none 0 0] 31)):=(bm (by omega) _ _ _ _).trans ((h.block _ (by omega)).trans B.2)
  have k:Hid ((df w1 a.heap.size 0 (ab y.1.1) (ab y.1.2.1) (af y.1.2.2) (ae y.2.1.1 y.2.2.length y.2.1.2)).heap[a.heap.size]?=some (.cells #[ab y.1.1,ab y.1.2.1,af y.1.2.2,ae y.2.1.1 y.2.2.length y.2.1.2] 31)):=(by
   show _=_
   simp[df,World.setCell,bT,r.out])
  have j:Hid (am w (df w1 a.heap.size 0 (ab y.1.1) (ab y.1.2.1) (af y.1.2.2) (ae y.2.1.1 y.2.2.length y.2.1.2))/\In (df w1 a.heap.size 0 (ab y.1.1) (ab y.1.2.1) (af y.1.2.2) (ae y.2.1.1 y.2.2.length y.2.1.2)).heap.size (df w1 a.heap.size 0 (ab y.1.1) (ab y.1.2.1) (af y.1.2.2) (ae y.2.1.1 y.2.2.length y.2.1.2)) (N+1) y/\cD (λq=>w.heap.size+2<=q) (N+1) y):=by
   refine⟨dW (f.1.trans (h.mono f.1.size)) (by omega),?_,l.2.2.1.mono λq C=>?_⟩
   ·rw[bG];exact In.off (λb (O:(a.alloc (.cells #[ab 0,ab 0,af ⟨#[]⟩,ae none 0 0] 31)).drew.heap.size<=b)=>bm (by omega) _ _ _ _) l.2.2.1 l.2.1
   ·have aa:(a.alloc (.cells #[ab 0,ab 0,af ⟨#[]⟩,ae none 0 0] 31)).drew.heap.size<=q:=C;omega
  have s:Hid (∃d,d=(df w1 a.heap.size 0 (ab y.1.1) (ab y.1.2.1) (af y.1.2.2) (ae y.2.1.1 y.2.2.length y.2.1.2))):=⟨_,rfl⟩;obtain⟨d,t⟩:=s.out;change Exit.then _ _ Exit.normal _ (df w1 a.heap.size 0 (ab y.1.1) (ab y.1.2.1) (af y.1.2.2) (ae y.2.1.1 y.2.2.length y.2.1.2));rw[<-t]at i k j ⊢;clear t s D U;have G:d.cell? ⟨w.heap.size+1,0,none⟩=some (ab 0):=ax i 0;have H:d.cell? ⟨w.heap.size+1,1,none⟩=some (ab 0):=ax i 1;have I:d.cell? ⟨w.heap.size+1,2,none⟩=some (af ⟨#[]⟩):=ax i 2;have J:d.cell? ⟨w.heap.size+1,3,none⟩=some (ae none 0 0):=ax i 3;have Z:=λu=>dm i u;have V:ai d a.heap.size 0 (ab y.1.1):=ax k 0;have W:ai d a.heap.size 1 (ab y.1.2.1):=ax k 1;have X:ai d a.heap.size 2 (af y.1.2.2):=ax k 2;have Y:ai d a.heap.size 3 (ae y.2.1.1 y.2.2.length y.2.1.2):=ax k 3;go_wp2_with fail;refine ay (v:=.agg #[ab y.1.1,ab y.1.2.1,af y.1.2.2,ae y.2.1.1 y.2.2.length y.2.1.2]) (by simp[results,results64,go_sem,G,H,I,J]) rfl ?_;refine⟨y,rfl,dW j.1 (by omega),?_,j.2.2.mono λq C=>by omega,l.2.2.2⟩;have e:=In.off (w':=df d (w.heap.size+1) 0 (ab y.1.1) (ab y.1.2.1) (af y.1.2.2) (ae y.2.1.1 y.2.2.length y.2.1.2)) (λb (O:w.heap.size+2<=b)=>bm (by omega) _ _ _ _) j.2.2 j.2.1;rw[<-bG (w:=d) (g:=w.heap.size+1) (o:=0) (ab y.1.1) (ab y.1.2.1) (af y.1.2.2) (ae y.2.1.1 y.2.2.length y.2.1.2)]at e;exact e
theorem ph{n:Nat}{x:Tm n}(a:bJ n x=0):aJ ⟨n,x⟩:=aU.2 (bM.1 a).1
section
variable {base pb:Nat} {name:aq} {room:Int} {N:Nat} {s:Tm (N+1)} {ms:List (Tm (N+1))} {xs:List (Wd×Tm (N+1))} {nk:Nat} {M:aO} {w:ag} {ws:List Wd} {nm:br} {sv:Wd} {vs:List Wd} {ma:ar} {mc:Nat} {Mh:aO}
theorem cV.later(a:cV base pb name room (N+1) s ms xs nk M w ws nm sv vs ma mc Mh){w1:ag}(c:am w w1):cV base pb name room (N+1) s ms xs nk M w1 ws nm sv vs ma mc Mh:=by
 refine⟨(a.heap.later c).mono λb c=>c.1,?_,a.has,a.len,a.names,a.inM,a.mailM⟩;rcases a.mail with g|⟨e,k,f,h,i,d,j⟩
 ·exact aj g
 ·exact ak ⟨e,k,f,h,i,(c.block e (aI.1 d).1).trans d,j⟩
theorem cV.read(a:cV base pb name room (N+1) s ms xs nk M w ws nm sv vs ma mc Mh)(k:nk<=50000){i:Nat}{v:Wd}{x:Tm (N+1)}(e:(sv::vs++xs.map (·.1))[i]?=some v)(c:(s::ms++xs.map (·.2))[i]?=some x):ao 64 #[aH pb,.agg #[ab v.1,ab v.2]] w (nM (N+1) x w):=by
 obtain⟨f,l,g,m,n,o,p,q⟩:=a.has;have b:=g x (aL c);have j:=a.names;exact IQ pb N x v w λh d=>KB (N+1) x v base (PL pb name sv (ae ma vs.length mc)) room ws nm Mh h ((a.later d).heap) (f.2 i v x e c) (ph b.1) b.2 (by omega) (by omega)
end
theorem E6(e N:Nat)(x:Tm (N+1))(v:Wd)(w:ag)(y:e<w.heap.size)(m:w.cell? ⟨e,5,none⟩=some (ab v.1))(n:w.cell? ⟨e,5+1,none⟩=some (ab v.2))(l:Hid (∀w1,am w w1->ao 64 #[aH e,.agg #[ab v.1,ab v.2]] w1 (nM (N+1) x w1))):ao 34 #[aH e] w (nM (N+1) x w):=by
 go_enter func34,ntmps34;go_wp2_with fail;refine(l _ aX).mono ?_;rintro f w1 ⟨a,rfl,d⟩;rw[show dG (N+1) a=.agg #[ab a.1.1,ab a.1.2.1,af a.1.2.2,ae a.2.1.1 a.2.2.length a.2.1.2]from rfl];have c:=ap (rG w _ _ _ _ _ d.1);have k:Hid (am w w1):=aX.trans (d.1.mono (by simp));have q:w1.cell? ⟨w.heap.size,0,none⟩=some (ab 0):=ax c 0;have r:w1.cell? ⟨w.heap.size,1,none⟩=some (ab 0):=ax c 1;have s:w1.cell? ⟨w.heap.size,2,none⟩=some (af ⟨#[]⟩):=ax c 2;have t:w1.cell? ⟨w.heap.size,3,none⟩=some (ae none 0 0):=ax c 3;have z:=λp=>dm c p;clear m n;go_wp2_with fail;refine ay (v:=.agg #[ab a.1.1,ab a.1.2.1,af a.1.2.2,ae a.2.1.1 a.2.2.length a.2.1.2]) (by simp[results,results34,go_sem,q,r,s,t]) rfl ?_;have i:cD (λh=>w.heap.size+1<=h) (N+1) a:=d.2.2.1.mono λh j=>by simpa using j
 refine⟨a,rfl,dW k (av _),?_,i.mono λh j=>by omega,d.2.2.2⟩;have f:=In.off (w':=df w1 w.heap.size 0 (ab a.1.1) (ab a.1.2.1) (af a.1.2.2) (ae a.2.1.1 a.2.2.length a.2.1.2)) (λb (u:w.heap.size+1<=b)=>bm (by omega) _ _ _ _) i d.2.1;rw[<-bG (w:=w1) (g:=w.heap.size) (o:=0) (ab a.1.1) (ab a.1.2.1) (af a.1.2.2) (ae a.2.1.1 a.2.2.length a.2.1.2)]at f;exact f
theorem j0.word{Mh:aO}{ma:ar}{vs:List Wd}{n:Nat}{w:ag}(b:j0 Mh ma vs n w){i:Nat}{v:Wd}(c:vs[i]?=some v):∃g a,ma=some ⟨g,a,none⟩/\g<w.heap.size/\w.cell? ⟨g,a+i*2,none⟩=some (ab v.1)/\w.cell? ⟨g,a+i*2+1,none⟩=some (ab v.2):=by
 rcases b with⟨_,h,_⟩|⟨g,a,p,j,_,e,q,_,r,m⟩
 ·rw[h]at c;simp at c
 ·have s:=(aZ.1 c).1;have f:∀(l:List Wd)(i:Nat)(v:Wd),l[i]?=some v->(bq l)[i*2]?=some (ab v.1)/\(bq l)[i*2+1]?=some (ab v.2):=by
   intro l
   induction l with
   | nil=>intro i v b;simp at b
   | cons o l ih=>
    intro i v b;cases i with
    | zero=>simp at b;subst b;simp[bq,qv]
    | succ i=>
     have:=ih i v (by simpa using b);simp only[bq,bP,qv]at this ⊢;rw[show (i+1)*2=i*2+2 by omega,show i*2+2+1=(i*2+1)+2 by omega];simpa using this
  have d:∀k,k<vs.length*2->w.cell? ⟨g,a+k,none⟩=(bq vs)[k]? :=λk d=>by
   rw[<-m,jG,if_pos d,lm,nv];simp[World.cell?,e]
  refine⟨g,a,j,(aI.1 e).1,?_,?_⟩
  ·rw[d (i*2) (by omega)];exact(f vs i v c).1
  ·rw[show a+i*2+1=a+(i*2+1) by omega,d (i*2+1) (by omega)];exact(f vs i v c).2
def Fw(N:Nat)(ms:List (Tm N))(w:ag)(e:Ending)(w':ag):Prop:=∃(ys:List (Tm N))(L:Nat)(a:ar)(c:Nat),e=.returned (ae a L c)/\Hid (ys.length=L/\eK N 0 w.heap.size ys (ae a L c) w w'/\aG (λa b=>aB N a N b) ys ms=true)
theorem Ig(n N:Nat)(ms:List (Tm (N+1)))(vs:List Wd)(L:Nat)(ma:ar)(aa:Nat)(w:ag)(T:Hid (vs.length=L))(D:Hid (ms.length=L))(ai:L<=1000)(_hpw:n<w.heap.size)(ad:w.cell? ⟨n,7,none⟩=some (ae ma L aa))(R:Hid (∀w1,am w w1->∀(i:Nat)(v:Wd),vs[i]?=some v->∃g s,ma=some ⟨g,s,none⟩/\g<w.heap.size/\w1.cell? ⟨g,s+i*2,none⟩=some (ab v.1)/\w1.cell? ⟨g,s+i*2+1,none⟩=some (ab v.2)))(O:Hid (∀w1,am w w1->∀(i:Nat)(v:Wd)(x:Tm (N+1)),vs[i]?=some v->ms[i]?=some x->ao 64 #[aH n,.agg #[ab v.1,ab v.2]] w1 (nM (N+1) x w1))):ao 35 #[aH n] w (Fw (N+1) ms w):=by
 obtain⟨Z,G,J,K,M⟩:=bY gO;have o:=ap (⟨G,J,K,M⟩:_/\_/\_/\_);clear G J K M;go_enter func35,ntmps35;go_wp2_with fail;go_loopw [3,11] (λv i wr=>∃(k:Nat)(h:ar)(c:Nat)(j:List (Tm (N+1))),k<=L/\i=ab k/\v=ae h k c/\Hid (j.length=k/\eK (N+1) 0 w.heap.size j (ae h k c) w wr/\aG (λh b=>aB (N+1) h (N+1) b) j (ms.take k)=true)) (λ_ i _=>L-(intOf i).toNat)
 case atStart=>exact⟨0,none,0,[],by omega,rfl,rfl,rfl,fF.nil _,by simp[aG]⟩
 case round=>
  obtain⟨k,h,c,j,an,rfl,rfl,e⟩:=hrel;have l:Hid (am w wr):=e.2.1.1;by_cases H:k<L;rotate_left
  ·obtain rfl:k=L:=by omega
   go_wp2_with fail
   go_ret
   refine⟨j,k,h,c,rfl,e.1,e.2.1,?_⟩;have m:=e.2.2;rw[bD (by rw[D.out];omega)]at m;exact m
  ·obtain⟨v,z⟩:∃v,vs[k]?=some v:=⟨vs[k]'(by rw[T.out];exact H),aN _⟩;obtain⟨x,A⟩:∃x,ms[k]?=some x:=⟨ms[k]'(by rw[D.out];exact H),aN _⟩;have S:=ap A;have P:Hid (∀w1,am w w1->ao 64 #[aH n,.agg #[ab v.1,ab v.2]] w1 (nM (N+1) x w1)):=λw1 y=>O w1 y k v x z A;obtain⟨g,s,rfl,aj,d0,d1⟩:=R wr l k v z;clear z A;have aq:(0:Int)<=(k:Int):=by omega
   have au:(k:Int)<(L:Int):=by omega
   have al:g<wr.heap.size:=by have:=l.size;omega
   go_wp2_with fail;refine(P _ (l.trans (aX.mono l.size))).mono ?_;rintro ah d ⟨a,rfl,p⟩;rw[show dG (N+1) a=.agg #[ab a.1.1,ab a.1.2.1,af a.1.2.2,ae a.2.1.1 a.2.2.length a.2.1.2]from rfl];have u:Hid (am wr d):=aX.trans (p.1.mono (by simp));have f:Hid (am wr (d.alloc (.cells #[ab a.1.1,ab a.1.2.1,af a.1.2.2,ae a.2.1.1 a.2.2.length a.2.1.2] 31))/\(d.alloc (.cells #[ab a.1.1,ab a.1.2.1,af a.1.2.2,ae a.2.1.1 a.2.2.length a.2.1.2] 31)).heap.size=d.heap.size+1/\(d.alloc (.cells #[ab a.1.1,ab a.1.2.1,af a.1.2.2,ae a.2.1.1 a.2.2.length a.2.1.2] 31)).heap[d.heap.size]?=some (.cells #[ab a.1.1,ab a.1.2.1,af a.1.2.2,ae a.2.1.1 a.2.2.length a.2.1.2] 31)/\In (d.alloc (.cells #[ab a.1.1,ab a.1.2.1,af a.1.2.2,ae a.2.1.1 a.2.2.length a.2.1.2] 31)).heap.size (d.alloc (.cells #[ab a.1.1,ab a.1.2.1,af a.1.2.2,ae a.2.1.1 a.2.2.length a.2.1.2] 31)) (N+1) a/\cD (λb=>b<0\/wr.heap.size<=b) (N+1) a):=by
    have m:am d (d.alloc (.cells #[ab a.1.1,ab a.1.2.1,af a.1.2.2,ae a.2.1.1 a.2.2.length a.2.1.2] 31)):=aX;refine⟨u.trans (m.mono u.size),by simp,aD _ _,(p.2.1.below m).mono m.size,p.2.2.1.mono λb y=>ak ?_⟩;have:wr.heap.size+1<=b:=by simpa using y
    omega
   have B:=λ(r q:Nat)(w4:ag) Y V U=>ap (e.2.1.appAt (W:=(d.alloc (.cells #[ab a.1.1,ab a.1.2.1,af a.1.2.2,ae a.2.1.1 a.2.2.length a.2.1.2] 31))) (w4:=w4) (g:=r) (c:=q) e.1 (aM _) l.size f.1 a f.2.2.2.1 f.2.2.2.2 Y V U);have C:=ap (e.2.1.ownAt e.1 f.1);have av:w.heap.size<=d.heap.size:=by have:=l.size;have:=u.size;omega
   clear d0 d1;go_wp2_with (at_builtin;refine wpList_append_lies _ rfl _ _ 29 rfl w.heap.size 31 Z _ 4 56 underlying29 o.1 o.2.1 o.2.2.1 o.2.2.2 rfl (by decide) (ae h k c) k (j.flatMap (iQ (N+1))) (by simp[Act.eval]) C ⟨d.heap.size,0,none⟩ 1 1 (iQ (N+1) a) (by simp[Act.eval]) rfl (World.news_of_block (cs:= #[ab a.1.1,ab a.1.2.1,af a.1.2.2,ae a.2.1.1 a.2.2.length a.2.1.2]) (t:=31) (fr:=(0,0)) f.2.2.1) (uP _ _) (by decide) (by unfold maxLen;omega) (by omega) (by have:=f.2.1;omega) (d.heap.size+1) f.2.1 ?_;intro r q w4 I F E X;have Q:=B r q w4 I F (by rw[f.out.2.1];exact E);clear I F E X B C);go_roundw
   case rel=>
    refine⟨k+1,some ⟨r,0,none⟩,q,j++ [a],by omega,by go_num,rfl,by rw[bz,e.out.1];rfl,Q,?_⟩;rw[dF,S.out];exact jv _ _ _ _ _ e.2.2 p.2.2.2
   case measure=>simp[intOf];omega
section
variable {base pb:Nat} {name:aq} {room:Int} {N:Nat} {s:Tm (N+1)} {ms:List (Tm (N+1))} {xs:List (Wd×Tm (N+1))} {nk:Nat} {M:aO} {w:ag} {ws:List Wd} {nm:br} {sv:Wd} {vs:List Wd} {ma:ar} {mc:Nat} {Mh:aO}
theorem cV.state(a:cV base pb name room (N+1) s ms xs nk M w ws nm sv vs ma mc Mh)(f:nk<=50000):ao 34 #[aH pb] w (nM (N+1) s w):=by
 obtain⟨k,h,j,d,_⟩:=a.heap.box;obtain⟨_,b,c,_,_,g⟩:=PL.cells d;exact E6 pb N s sv w g b c λl e=>(a.later e).read f (i:=0) (by simp) (by simp)
theorem cV.mails(a:cV base pb name room (N+1) s ms xs nk M w ws nm sv vs ma mc Mh)(n:nk<=50000)(u:ms.length<=1000):ao 35 #[aH pb] w (Fw (N+1) ms w):=by
 obtain⟨z,v,y,k,_⟩:=a.heap.box;obtain⟨_,_,_,e,_,o⟩:=PL.cells k;have m:=a.len;refine Ig pb N ms vs vs.length ma mc w rfl m.symm (by omega) o e (λt b i r c=>?_) (λt b i r x c p=>?_)
 ·obtain⟨j,q,f,d,g,h⟩:=a.mail.word c;exact⟨j,q,f,d,(aw b _ _ d).trans g,(aw b _ _ d).trans h⟩
 ·have l:=(aZ.1 c).1;exact(a.later b).read n (i:=i+1) (by rw[eW,dy,dB l];exact c) (by rw[eW,dy,dB (by omega)];exact p)
end
theorem xC{base:Nat}{v:au}{n m xc:Nat}{xs:cX}{ps:List Wd}{xa:ar}{w:ag}(ty:TypeId)(f:w.ownsRow base 109 2 v n xs)(A:fC w ps xa)(j:ps.length=m)(G:n+m<=200000)(x:base<=w.heap.size):∃a d w',(Builtin.append_ #[100,100] ty #[v,ae xa m xc]).run Tryz.prog w=.ok (ae a (n+m) d) w'/\w'.ownsRow base 109 2 (ae a (n+m) d) (n+m) (xs++bq ps)/\w.grownBy w' v.ownBlock/\((Value.slice a (n+m) d).ownBlock=v.ownBlock\/(Value.slice a (n+m) d).ownBlock=some w.heap.size):=by
 obtain⟨l,i,B,C,D⟩:=bY lO;have q:∀{w':ag}{g:au}{k:Nat}{F:cX},w'.ownsRow base 109 2 g k F->∃o c,g=ae o k c:=λe=>by
  rcases e.2 with⟨rfl,rfl⟩|⟨r,cap,p,rfl,_⟩
  ·exact⟨none,0,rfl⟩
  ·exact⟨_,cap,rfl⟩
 rcases A with rfl|⟨ad,rfl,y⟩
 ·obtain rfl:m=0:=j.symm;obtain⟨b,cap,E,z⟩:∃b cap,v=ae b n cap/\n<=cap:=by
   rcases f.2 with⟨rfl,rfl⟩|⟨r,cap,p,rfl,_,_,e,_⟩
   ·exact⟨none,0,rfl,av _⟩
   ·exact⟨_,cap,rfl,e⟩
  subst E;exact⟨b,cap,w,ou w _ _ ty _ _ l underlying100 underlying100 i b xa n cap xc z,by simpa [bq]using f,g8 _ _,aj rfl⟩
 ·obtain⟨g,w',s,h,t,_,u⟩:=run_append_own_at (P:=Tryz.prog) w base 100 ty 109 l _ 2 16 underlying100 i B C D rfl (by decide) _ n xs f ad m xc (bq ps) (by rw[cP,j]) y (rh _) (by unfold maxLen;omega) (by omega) x;obtain⟨a,d,rfl⟩:=q h;exact⟨a,d,w',s,h,t,u⟩
theorem wS{w:ag}{d:Array Oper}{o:Oper}{a:Act}{K:Act->bt}{Q:Exit->Act->bt}{E:Prop}(k:o.guard=none)(s x:Operand)(p:o.op=.call {callee:=.builtin .append,args:= #[s,x],argTypes:= #[100,100]}){base:Nat}{v:au}{n m xc:Nat}{xs:cX}{ps:List Wd}{xa:ar}(t:a.eval s=v)(z:a.eval x=ae xa m xc)(q:w.ownsRow base 109 2 v n xs)(u:fC w ps xa)(l:ps.length=m)(h:n+m<=200000)(j:base<=w.heap.size)(i:∀b c w',w'.ownsRow base 109 2 (ae b (n+m) c) (n+m) (xs++bq ps)->w.grownBy w' v.ownBlock->((Value.slice b (n+m) c).ownBlock=v.ownBlock\/(Value.slice b (n+m) c).ownBlock=some w.heap.size)->K (a.put o.dst (ae b (n+m) c)) w'):if Region.wanted o (yielded d a.tmps)=true then Oper.wp Tryz.prog o a w K Q else E:=by
 have y:Region.wanted o (yielded d a.tmps)=true:=by simp[Region.wanted,k]
 rw[if_pos y];obtain⟨b,c,w',r,e,f,g⟩:=xC (xc:=xc) o.type q u l h j;unfold Oper.wp execOp;simp only[p,resolve,invoke,builtin,Sem.run_bind,Sem.run_pure,nH,nA,aV,cF,t,z,r];exact i _ _ _ e f g
theorem eh.turn{base d:Nat}{name:aq}{g h:Wd}{mv j:au}{room:Int}{ws:List Wd}{nm:br}{M:aO}{w w':ag}(l:eh base (PL d name g mv) room ws nm M w)(k:ch (λb=>b=d) w w')(q:∀tv lv mp:au,w.heap[d]?=some (.cells #[af name,ab room,tv,lv,mp,ab g.1,ab g.2,mv] 111)->w'.heap[d]?=some (.cells #[af name,ab room,tv,lv,mp,ab h.1,ab h.2,j] 111)):eh base (PL d name h j) room ws nm M w':=by
 obtain⟨tv,lv,mp,e,i,f,m,n,o,p⟩:=l;refine⟨tv,lv,mp,⟨⟨rfl,ak rfl⟩,q tv lv mp e.2⟩,eE i k (λb a c=>?_),f.kept k (λb a c=>?_) (λb a c=>?_),m,n,o,p⟩
 ·subst c;exact nZ i e (by decide) a
 ·subst c;exact nZ f.1 e (by decide) a
 ·subst c;exact uI f e a
theorem j0.words{Mh:aO}{ma:ar}{vs:List Wd}{k:Nat}{w:ag}(j:j0 Mh ma vs k w):fC w vs ma:=by
 rcases j with⟨_,b,_⟩|⟨c,d,l,g,_,h,m,_,n,i⟩
 ·exact aj b
 ·refine ak ⟨⟨c,d,none⟩,g,λf p e=>?_⟩;have o:=(aZ.1 e).1;have a:=e;rw[<-i,jG]at a;split at a
  ·rw[lm,nv]at a;have b:(⟨c,d,none⟩:Addr).add f=⟨c,d+f,none⟩:=by unfold Addr.add;split<;>simp[*]
   rw[b];simp[World.cell?,h,a]
  ·cases a
theorem kA.tidied{N:Nat}{ws:List Wd}{nm:br}{room:Int}{b:List Wd}{a:List (Tm N)}(p:kA N ws nm room b a):kA N (kj ws N b).2.1 nm room (kj ws N b).1 a/\((kj ws N b).2.1.length:Int)=(a.map (sz N)).sum/\(kj ws N b).1.length=b.length:=by
 obtain⟨j,v,k,z,A,w,y,l⟩:=p;obtain⟨m,n,o⟩:=EM l j v;have h:∀c∈a,aJ ⟨N,c⟩:=λc f=>ph (k c f).1;have i:=oL (λx ws nm e=>io N x ws nm e) a [] nm h;have s:=BW N a [] nm;have q:=vO (λx ws nm e=>Aa N x ws nm e) a [] nm h;have g:=ip (bk N) a [] nm;rw[o]at i;rw[m,n];simp only[iU]at s;refine⟨⟨⟨g,λu C c t f=>?_⟩,q.1,k,by omega,by omega,w,y,l⟩,by omega,by rw[g,j.1]⟩;obtain⟨B,d,r⟩:=i u c f;rw[t]at d;injection d with d;rw[d];exact r
theorem np(w:ag){g q:Nat}(b:g≠q)(o:Nat)(v:au)(j:Nat):(w.setCell ⟨q,o,none⟩ v).cell? ⟨g,j,none⟩=w.cell? ⟨g,j,none⟩:=by
 refine bH ?_ j;have c:¬q=g:=λa=>b a.symm;simp[World.setCell,bT,c]
def vX(g L:Nat):ar:=if L=0 then some ⟨g,0,none⟩else some ⟨g,2,none⟩
def Dd(w:ag)(a:Nat)(b:Wd)(mv:au):ag:=((w.setCell ⟨a,5,none⟩ (ab b.1)).setCell ⟨a,5+1,none⟩ (ab b.2)).setCell ⟨a,7,none⟩ mv
theorem Ja(d:Nat)(f:Wd)(vs:List Wd)(L:Nat)(ma:ar)(t:Nat)(w:ag)(Fin:Nat->Wd->ag->bt)(Q:Hid (vs.length=L))(T:L<=1000)(q:Hid (∀w1,am w w1->ai w1 d 5 (ab f.1)/\ai w1 d (5+1) (ab f.2)/\ai w1 d 7 (ae ma L t)))(M:Hid (∀w1,am w w1->fC w1 vs ma))(G:Hid (∀w1,am w w1->∀(a:ar)(c:Nat),w1.ownsRow w.heap.size 109 2 (ae a (1+L) c) (1+L) (bq (f::vs))->ao 44 #[.pointer (some ⟨d,1,none⟩),ae a (1+L) c] w1 λe w'=>∃(g:Nat)(h:Wd),e=.returned (.tuple #[ae (some ⟨g,0,none⟩) (1+L) (1+L),ab 0])/\Hid ((ai w' g 0 (ab h.1)/\ai w' g 1 (ab h.2))/\g≠d/\(∃B C D,ai w' d 5 B/\ai w' d (5+1) C/\ai w' d 7 D)/\(∀j,w'.frozen? ⟨d,j,none⟩=false)/\Fin g h w1 w'))):ao 23 #[aH d] w λe w'=>e=.returned (.tuple #[])/\∃(g:Nat)(h:Wd)(w1 w2:ag),w'=(Dd w2 d h (ae (vX g L) L L)).drew/\Hid (am w w1/\Fin g h w1 w2):=by
 obtain⟨N,O,P⟩:=q.out w (aA _ _);have H:Hid (am w w.drew):=(aA _ _).drew;have k:Hid (am w (w.alloc (.cells #[ab f.1,ab f.2] 109)).drew/\(w.alloc (.cells #[ab f.1,ab f.2] 109)).drew.ownsRow w.heap.size 109 2 (ae (some ⟨w.heap.size,0,none⟩) 1 1) 1 (qv f)):=by
  refine⟨by go_grown,rfl,ak ⟨w.heap.size,1, #[ab f.1,ab f.2],rfl,av _,rX w _ rfl,av _,by unfold maxLen;omega,rfl,rfl⟩⟩
 go_enter func23,ntmps23;go_wp2_with fail
 go_region_held3 (λw'=>w'.cell? ⟨d,5,none⟩=some (ab f.1)/\w'.cell? ⟨d,5+1,none⟩=some (ab f.2)/\w'.cell? ⟨d,7,none⟩=some (ae ma L t)) (first|(go_keep;done)|with_reducible exact q _ H|with_reducible exact q _ k.1|exact q _ r)
  ((refine wS rfl _ _ rfl (base:=w.heap.size) (v:=ae (some ⟨w.heap.size,0,none⟩) 1 1) (n:=1) (m:=L) (xc:=t) (xs:=qv f) (ps:=vs) (xa:=ma) (by simp[Act.eval]) (by simp[Act.eval]) k.2 (M _ k.1) Q (by omega) (by have:=k.1.size;exact this) ?_;intro u x w2 A o R;have r:Hid (am w w2):=(k.1.trans ⟨o.os,o.tape,o.output,o.size,λb S=>o.block b (aW S k.1.size) (λe=>by simp[Value.ownBlock]at e;omega)⟩);have K:=ap (show w2.ownsRow w.heap.size 109 2 (ae u (1+L) x) (1+L) (bq (f::vs))from A);clear A o R))
 have F:=ap (G w2 r u x K);clear N O P;go_wp2_with fail;refine F.mono ?_;rintro e i ⟨g,h,rfl,E⟩;obtain⟨⟨y,z⟩,l,⟨B,C,D,d5,d6,d7⟩,U,s⟩:=E;replace s:=ap s;have W:(0:Int)<1+(L:Int):=by omega
 have X:(1:Int)<=1+(L:Int):=by omega
 have V:d≠g:=λe=>l e.symm;have I:Hid (∀a b:au,((i.setCell ⟨d,5,none⟩ a).setCell ⟨d,5+1,none⟩ b).cell? ⟨g,0,none⟩=some (ab h.1)/\((i.setCell ⟨d,5,none⟩ a).setCell ⟨d,5+1,none⟩ b).cell? ⟨g,1,none⟩=some (ab h.2)):=λa b=>by
  have p:∀j,((i.setCell ⟨d,5,none⟩ a).setCell ⟨d,5+1,none⟩ b).cell? ⟨g,j,none⟩=i.cell? ⟨g,j,none⟩:=λj=>(np _ l _ _ j).trans (np _ l _ _ j);exact⟨(p _).trans y,(p _).trans z⟩
 have J:Hid (∀a b c:au,(((i.setCell ⟨d,5,none⟩ a).setCell ⟨d,5+1,none⟩ b).setCell ⟨d,7,none⟩ c).cell? ⟨g,0,none⟩=some (ab h.1)/\(((i.setCell ⟨d,5,none⟩ a).setCell ⟨d,5+1,none⟩ b).setCell ⟨d,7,none⟩ c).cell? ⟨g,1,none⟩=some (ab h.2)):=λa b c=>by
  have p:∀j,(((i.setCell ⟨d,5,none⟩ a).setCell ⟨d,5+1,none⟩ b).setCell ⟨d,7,none⟩ c).cell? ⟨g,j,none⟩=i.cell? ⟨g,j,none⟩:=λj=>(np _ l _ _ j).trans ((np _ l _ _ j).trans (np _ l _ _ j));exact⟨(p _).trans y,(p _).trans z⟩
 go_wp2_with fail;go_region_held3 (λw'=>w'.cell? ⟨g,0,none⟩=some (ab h.1)/\w'.cell? ⟨g,1,none⟩=some (ab h.2)) (first|(go_keep;done)|exact I _ _|exact J _ _ _) (fail);exact dL (v:=.tuple #[]) (by simp[results]) rfl ⟨rfl,g,h,w2,i,rfl,r,s⟩
end Go.Proofs.YtmmahddlcldmiaaGreat
