/- Proved here: plain facts and contracts. No condition but what each names. -/
import Derived.Test.YtmmahddlcldmiaaGreatJ07
import Derived.Deep.DrawnRows
namespace Go.Proofs.YtmmahddlcldmiaaGreat
open Go.RowKit Tryz
open Go.RowKit Go.Maps
set_option maxHeartbeats 2000000
set_option maxRecDepth 100000
def fI:(n:Nat)->Tm n->Int
 | 0,_=>0
 | n+1,x=>if x.1.1=4 then 1+x.2.2.foldl (λm y=>max m (fI n y)) 0 else 0
def te(n:Nat)(p:List (Tm n))(k:Nat):Int:=(p.take k).foldl (λm y=>max m (fI n y)) 0
theorem Dc(n:Nat)(p:List (Tm n))(k:Nat)(x:Tm n)(b:p[k]?=some x):te n p (k+1)=max (te n p k) (fI n x):=by
 obtain⟨c,a⟩:=aX.1 b;unfold te;rw[pD c,a,jo];rfl
theorem qs{n:Nat}(N:Int):(l:List (Tm n))->(m:Int)->0<=m->m<=N->(∀y∈l,0<=fI n y/\fI n y<=N)->0<=l.foldl (λm y=>max m (fI n y)) m/\l.foldl (λm y=>max m (fI n y)) m<=N
 | [],_,h0,h1,_=>⟨h0,h1⟩
 | y::l,m,h0,h1,h=>by
  have c:=h y (by simp);exact qs N l (max m (fI n y)) (by omega) (by omega) (λb a=>h b (by simp[a]))
variable{k:Int×Int}{b:List An}{c m n:Nat}
theorem kv(l:List (Tm n))(y:Tm n)(c:y∈l):(aC n y).length<=(l.flatMap λy=>aC n y).length:=by
 obtain⟨a,d⟩:=dd c;have b:=FF (λy=>aC n y) l (a+1);rw[If _ l a y d,bw]at b;omega
theorem gd:(n:Nat)->(x:Tm n)->0<=fI n x/\fI n x<=(aC n x).length
 | 0,_=>by simp[fI]
 | n+1,x=>by
  have e:=qs ((x.2.2.flatMap λy=>aC n y).length:Int) x.2.2 0 (by omega) (by omega) (λy b=>by
   have c:=gd n y;have d:=kv x.2.2 y b
   omega)
  simp only[fI,aC,br];by_cases a:x.1.1=4
  ·rw[if_pos a];omega
  ·rw[if_neg a];omega
theorem AY(n:Nat)(p:List (Tm n))(k:Nat):0<=te n p k/\te n p k<=(p.flatMap λy=>aC n y).length:=
 qs _ (p.take k) 0 (by omega) (by omega) (λy a=>by
  have b:=gd n y;have c:=kv p y (List.mem_of_mem_take a)
  omega)
def OY(n:Nat):Prop:=∀(x:Tm n)(B:Nat)(w:ag),In B w n x->B<=w.heap.size->(aC n x).length<=2097152->
 am 87 #[dw n x] w λe w'=>e=.returned (ab (fI n x))/\ak w w'
theorem Dd(b d:Int)(s:ap)(a:aw)(len pc:Nat)(w:ag)(c:¬b=4):am 87 #[.agg #[ab b,ab d,af s,ae a len pc]] w λe w'=>e=.returned (ab 0)/\ak w w':=by
 have f:(b !=4)=true:=by simpa using c
 clear c;go_enter func87,ntmps87;go_wp2_with fail
 go_ret
 exact⟨rfl,(aq _ _).alloc (ao _) _⟩
theorem Gi(n:Nat)(ih:OY n)(P:Int)(s:ap)(a:aw)(pc len:Nat)(p:List (Tm n))(E:Hid (p.length=len))(B:Nat)(w:ag)(h:Hid (p=[]\/∃b o,a=some ⟨b,o,none⟩/\b<B/\∀(i:Nat)(y:Tm n),p[i]?=some y->dH w b (o+i*4) n y/\In B w n y))(T:len<=9223372036854775807)(u:B<=w.heap.size)(O:Hid (1+(p.flatMap λy=>aC n y).length<=2097152)):am 87 #[.agg #[ab 4,ab P,af s,ae a len pc]] w λe w'=> e=.returned (ab (1+p.foldl (λm y=>max m (fI n y)) 0))/\ak w w':=by
 go_enter func87,ntmps87;go_wp2_with fail;go_loopw [3,12] (λt i wr=>∃k:Nat,∃d:Int,k<=len/\i=ab k/\t=ab d/\Hid (d=te n p k)/\ak w wr) (λ_ i _=>len-(intOf i).toNat)
 case atStart=>exact⟨0,0,by omega,rfl,rfl,by simp[Hid,te],(aq _ _).alloc (ao _) _⟩
 case round=>
  obtain⟨k,d,Q,rfl,rfl,v,f⟩:=hrel;have r:=AY n p k;rw[<-v.out]at r;have K:=O.out;have V:0<=d:=r.1;have W:d<=2097152:=by omega
  clear r;by_cases M:k<len
  ·obtain⟨c,j⟩:∃c,p[k]?=some c:=⟨p[k]'(by rw[E.out];exact M),aM _⟩;have I:=au (Dc n p k c j);have J:=kv p c (aN j);have F:(aC n c).length<=2097152:=by omega
   clear J K;rcases h.out with h|⟨U,po,rfl,N,h⟩
   ·subst h;simp at j
   obtain⟨l,q⟩:=h k c j;replace l:=l.below (f.mono u) N;replace q:=q.below (f.mono u);clear h j;cases n with
   | zero=>exact l.elim
   | succ n=>
   obtain⟨X,Y,Z,aa⟩:=l;have A:B<=wr.heap.size:=aD u f.size
   have G:Hid (∀g,ak wr g->am 87 #[.agg #[ab c.1.1,ab c.1.2.1,af c.1.2.2,ae c.2.1.1 c.2.2.length c.2.1.2]] g λe w'=>e=.returned (ab (fI (n+1) c))/\ak g w'):=
    λg z=>ih c B g (q.below (z.mono A)) (aD A z.size) F
   clear ih q F;generalize c.2.2.length=ad at*;generalize fI (n+1) c=x at*;have R:(0:Int)<=(k:Int):=by omega
   have S:(k:Int)<(len:Int):=by omega
   go_wp2_with fail;refine(G _ ((aq _ _).alloc (ao _) _)).mono ?_;rintro e g ⟨rfl,C⟩;have L:ak w g:=(f.trans (((aq _ _).alloc (ao _) _).mono f.size)).trans (C.mono (by have:=f.size;simp;omega));clear C;have D:max d x=if d<x then x else d:=by split<;>omega
   have H:=au D;clear D;go_wp2_with fail;go_roundw
   case rel=>exact⟨k+1,_,by omega,by go_num,rfl,by simp only[Hid];rw[I.out,<-v.out,H.out],L⟩
   case measure=>simp[intOf];omega
  ·go_wp2_with fail
   go_ret
   refine⟨ju ?_,f⟩;rw[v.out];unfold te;rw[bF (by rw[E.out];omega)]
theorem Gh(n:Nat):OY n:=by
 induction n with
 | zero=>intro o i b g;exact g.elim
 | succ n ih=>
  intro o i b g q m;obtain⟨⟨k,e,d⟩,⟨c,pc⟩,a⟩:=o;obtain⟨⟨_,_,_,s,l⟩,j⟩:=g;simp only at s l j;unfold maxLen at l;have r:(aC (n+1) ((k,e,d),(c,pc),a)).length=1+(a.flatMap λh=>aC n h).length:=by simp only[aC,br];omega
  rw[r]at m;show am 87 #[.agg #[ab k,ab e,af d,ae c a.length pc]] b λp u=>p=.returned (ab (if k=4 then 1+a.foldl (λt h=>max t (fI n h)) 0 else 0))/\ak b u;by_cases f:k=4
  ·subst f;exact Gi n ih e d c pc a.length a rfl i b j (by omega) q m
  ·rw[if_neg f];exact Dd k e d c a.length pc b f
def pZ(n:Nat)(p:List (Tm n))(k:Nat):Int:=1+p.length+((p.take k).map λy=>sz n y).sum
theorem EB(n:Nat)(p:List (Tm n))(k:Nat)(x:Tm n)(b:p[k]?=some x):pZ n p (k+1)=pZ n p k+sz n x:=by
 obtain⟨c,a⟩:=aX.1 b;unfold pZ;rw[pD c,a];simp;omega
theorem Ie(n:Nat)(l:List (Tm n)):(l.map λy=>1+sz n y).sum=l.length+(l.map λy=>sz n y).sum:=by
 induction l with
 | nil=>simp
 | cons y l ih=>simp only[aU,bN,br,ih];omega
theorem Iv(n:Nat)(p:List (Tm n))(k:Nat)(a:p.length<=k):pZ n p k=1+(p.map λy=>1+sz n y).sum:=by
 unfold pZ;rw[bF a,Ie];omega
theorem xz(n:Nat)(p:List (Tm n)):p.length<=(p.flatMap λy=>aC n y).length:=by
 induction p with
 | nil=>simp
 | cons y l ih=>
  have:1<=(aC n y).length:=by cases n<;>simp[aC]
  simp only[bK,bw,br];omega
theorem Cy(n:Nat)(p:List (Tm n))(k:Nat):0<=pZ n p k/\pZ n p k<=3*(1+(p.flatMap λy=>aC n y).length:Int):=by
 have b:=xz n p;have a:=FF (λy=>aC n y) p k;have key:∀l:List (Tm n),0<=(l.map λy=>sz n y).sum/\(l.map λy=>sz n y).sum<=2*((l.flatMap λy=>aC n y).length:Int):=by
  intro l
  induction l with
  | nil=>exact⟨by simp,by simp⟩
  | cons y l ih=>
   have c:=fh n y;simp only[aU,bN,bK,bw];exact⟨by omega,by omega⟩
 have k:=key (p.take k);unfold pZ;exact⟨by omega,by omega⟩
def P7(n:Nat):Prop:=∀(x:Tm n)(B:Nat)(w:ag),In B w n x->B<=w.heap.size->(aC n x).length<=2097152->
 am 88 #[dw n x] w λe w'=>e=.returned (ab (sz n x))/\ak w w'
theorem Ez(b d:Int)(s:ap)(a:aw)(len pc:Nat)(w:ag)(c:¬b=4):am 88 #[.agg #[ab b,ab d,af s,ae a len pc]] w λe w'=>e=.returned (ab 0)/\ak w w':=by
 have f:(b !=4)=true:=by simpa using c
 clear c;go_enter func88,ntmps88;go_wp2_with fail
 go_ret
 exact⟨rfl,(aq _ _).alloc (ao _) _⟩
theorem Iu(n:Nat)(ih:P7 n)(M:Int)(s:ap)(a:aw)(pc len:Nat)(p:List (Tm n))(l:Hid (p.length=len))(B:Nat)(w:ag)(g:Hid (p=[]\/∃b o,a=some ⟨b,o,none⟩/\b<B/\∀(i:Nat)(y:Tm n),p[i]?=some y->dH w b (o+i*4) n y/\In B w n y))(v:B<=w.heap.size)(D:Hid (1+(p.flatMap λy=>aC n y).length<=2097152)):am 88 #[.agg #[ab 4,ab M,af s,ae a len pc]] w λe w'=> e=.returned (ab (1+(p.map λy=>1+sz n y).sum))/\ak w w':=by
 have S:len<=2097152:=by have u:=xz n p;have O:=D.out;rw[<-l.out];omega
 go_enter func88,ntmps88;go_wp2_with fail;go_loopw [3,16] (λt i wr=>∃k:Nat,∃h:Int,k<=len/\i=ab k/\t=ab h/\Hid (h=pZ n p k)/\ak w wr) (λ_ i _=>len-(intOf i).toNat)
 case atStart=>exact⟨0,1+len,by omega,rfl,rfl,by simp only[Hid,pZ];rw[l.out];simp,(aq _ _).alloc (ao _) _⟩
 case round=>
  obtain⟨k,h,P,rfl,rfl,x,d⟩:=hrel;have r:=Cy n p k;rw[<-x.out]at r;have I:=D.out;have U:0<=h:=r.1;have V:h<=6291456:=by omega
  clear r;by_cases K:k<len
  ·obtain⟨c,j⟩:∃c,p[k]?=some c:=⟨p[k]'(by rw[l.out];exact K),aM _⟩;have G:=au (EB n p k c j);have H:=kv p c (aN j);have E:(aC n c).length<=2097152:=by omega
   have z:=fh n c;have ad:0<=sz n c:=z.1;have ah:sz n c<=4194304:=by omega
   clear H I z;rcases g.out with g|⟨T,po,rfl,L,g⟩
   ·subst g;simp at j
   obtain⟨m,q⟩:=g k c j;replace m:=m.below (d.mono v) L;replace q:=q.below (d.mono v);clear g j;cases n with
   | zero=>exact m.elim
   | succ n=>
   obtain⟨W,X,Y,Z⟩:=m;have A:B<=wr.heap.size:=aD v d.size
   have F:Hid (∀f,ak wr f->am 88 #[.agg #[ab c.1.1,ab c.1.2.1,af c.1.2.2,ae c.2.1.1 c.2.2.length c.2.1.2]] f λe w'=>e=.returned (ab (sz (n+1) c))/\ak f w'):=
    λf u=>ih c B f (q.below (u.mono A)) (aD A u.size) E
   clear ih q E;generalize c.2.2.length=aa at*;generalize sz (n+1) c=N at*;have Q:(0:Int)<=(k:Int):=by omega
   have R:(k:Int)<(len:Int):=by omega
   go_wp2_with fail;refine(F _ ((aq _ _).alloc (ao _) _)).mono ?_;rintro e f ⟨rfl,C⟩;have J:ak w f:=(d.trans (((aq _ _).alloc (ao _) _).mono d.size)).trans (C.mono (by have:=d.size;simp;omega));clear C;go_wp2_with fail;go_roundw
   case rel=>exact⟨k+1,h+N,by omega,by go_num,by go_num,by simp only[Hid];rw[G.out,<-x.out],J⟩
   case measure=>simp[intOf];omega
  ·go_wp2_with fail
   go_ret
   refine⟨ju ?_,d⟩;rw[x.out,Iv n p k (by rw[l.out];omega)]
theorem yv(n:Nat):P7 n:=by
 induction n with
 | zero=>intro m i b g;exact g.elim
 | succ n ih=>
  intro m i b g p l;obtain⟨⟨k,e,d⟩,⟨c,pc⟩,a⟩:=m;obtain⟨⟨_,_,_,s,r⟩,j⟩:=g;simp only at s r j;have q:(aC (n+1) ((k,e,d),(c,pc),a)).length=1+(a.flatMap λh=>aC n h).length:=by simp only[aC,br];omega
  rw[q]at l;show am 88 #[.agg #[ab k,ab e,af d,ae c a.length pc]] b λo t=>o=.returned (ab (if k=4 then 1+(a.map λh=>1+sz n h).sum else 0))/\ak b t;by_cases f:k=4
  ·subst f;exact Iu n ih e d c pc a.length a rfl i b j p l
  ·rw[if_neg f];exact Ez k e d c a.length pc b f
theorem Cu(w:ag)(k u:Int)(s:ap)(a:aw)(l c:Nat)(i:Bool)(d m:Int)(D:Hid (∀w1,ak w w1->am 86 #[.agg #[ab k,ab u,af s,ae a l c]] w1 λe w'=>e=.returned (.bool i)/\ak w1 w'))(C:Hid (∀w1,ak w w1->am 87 #[.agg #[ab k,ab u,af s,ae a l c]] w1 λe w'=>e=.returned (ab d)/\ak w1 w'))(E:Hid (∀w1,ak w w1->am 88 #[.agg #[ab k,ab u,af s,ae a l c]] w1 λe w'=>e=.returned (ab m)/\ak w1 w')):am 53 #[.agg #[ab k,ab u,af s,ae a l c]] w λe w'=>e=.returned (ab (if i then if 12<d\/200<m then 2 else 0 else 5))/\ak w w':=by
 generalize A:(if i then if 12<d\/200<m then (2:Int)else 0 else 5)=I;have h:=au A;clear A;go_enter func53,ntmps53;go_wp2_with fail;refine(D _ ((aq _ _).alloc (ao _) _)).mono ?_;rintro e w1 ⟨rfl,j⟩;have f:Hid (ak w w1/\w.heap.size+1<=w1.heap.size):=⟨((aq _ _).alloc (ao _) _).trans (j.mono (by simp)),by have:=j.size;simpa using this⟩;have b:=ax j;simp only[iG]at b;have r:=(b w.heap.size 0 (by omega)).trans (by simp[go_sem]:_=some (Value.int .i64 k));have t:=(b w.heap.size 1 (by omega)).trans (by simp[go_sem]:_=some (Value.int .i64 u));have v:=(b w.heap.size 2 (by omega)).trans (by simp[go_sem]:_=some (Value.string s));have x:=(b w.heap.size 3 (by omega)).trans (by simp[go_sem]:_=some (Value.slice a l c));clear b j;cases i with
 | false=>
  go_wp2_with fail
  go_ret
  exact⟨ju (by rw[<-h.out];rfl),f.1⟩
 | true=>
  go_wp2_with fail;refine(C _ f.1).mono ?_;rintro e G ⟨rfl,p⟩;have g:Hid (ak w G):=f.1.trans (p.mono f.1.size);have b:=ax p;have F:=f.2;replace r:=(b w.heap.size 0 (by omega)).trans r;replace t:=(b w.heap.size 1 (by omega)).trans t;replace v:=(b w.heap.size 2 (by omega)).trans v;replace x:=(b w.heap.size 3 (by omega)).trans x;clear b p F;by_cases y:12<d
  ·have n:=au y;go_wp2_with fail
   go_ret
   exact⟨ju (by rw[<-h.out,if_pos trivial,if_pos (ai n.out)]),g⟩
  ·have n:=au y;go_wp2_with fail;refine(E _ g).mono ?_;rintro e H ⟨rfl,z⟩;have q:Hid (ak w H):=g.trans (z.mono g.size);clear z;by_cases B:200<m
   ·have o:=au B;go_wp2_with fail
    go_ret
    exact⟨ju (by rw[<-h.out,if_pos trivial,if_pos (aj o.out)]),q⟩
   ·have o:=au B;go_wp2_with fail
    go_ret
    exact⟨ju (by rw[<-h.out,if_pos trivial,if_neg (by have:=n.out;have:=o.out;omega)]),q⟩
def wX(n:Nat)(x:Tm n):Int:=if ch n x then if 12<fI n x\/200<sz n x then 2 else 0 else 5
theorem Ct(n:Nat)(x:Tm n)(B:Nat)(w:ag)(d:In B w n x)(b:B<=w.heap.size)(f:(aC n x).length<=2097152):am 53 #[dw n x] w λe w'=>e=.returned (ab (wX n x))/\ak w w':=by
 cases n with
 | zero=>exact d.elim
 | succ n=>
 exact Cu w x.1.1 x.1.2.1 x.1.2.2 x.2.1.1 x.2.2.length x.2.1.2 (ch (n+1) x) (fI (n+1) x) (sz (n+1) x)
  (λc a=>Dl (n+1) x B c (d.below (a.mono b)) (aD b a.size))
  (λc a=>Gh (n+1) x B c (d.below (a.mono b)) (aD b a.size) f)
  (λc a=>yv (n+1) x B c (d.below (a.mono b)) (aD b a.size) f)
theorem lN:(n:Nat)->(x:Tm n)->ch n x=(aC n x).all cJ
 | 0,_=>by simp[ch,aC,cJ]
 | n+1,x=>by
  have e:(aC (n+1) x).all cJ=(cJ (bI n x) && (x.2.2.flatMap λy=>aC n y).all cJ):=rfl;rw[e];simp only[ch];cases hg:cJ (bI n x)
  ·rfl
  ·rw[eJ,eJ];by_cases b:x.1.1=4
   ·rw[b];have key:∀l:List (Tm n),(l.all λy=>ch n y)=(l.flatMap λy=>aC n y).all cJ:=by
     intro l
     induction l with
     | nil=>rfl
     | cons y l ih=>simp only[jn,bK,kM,ih,lN n y]
    rw[key];simp
   ·have c:x.2.2=[]:=by
      unfold cJ at hg;simp only[aK,iB,cF]at hg;rcases hg.2 with a|a
      ·exact(b a).elim
      ·have:¬(0:Int)<(x.2.2.length:Int):=by simpa [bI]using a
       exact bJ (by omega)
    rw[c];simp
def nR:List Nd->List Int->Int->Int
 | x::l,d::ds,m=>nR l ds (ny x d m)
 | _,_,m=>m
theorem AM(g:Int):(l:List Nd)->(b:List Int)->(m:Int)->l.length=b.length->C7 g l b m=if l.all cJ then (if 12<nR l b m\/200<g then 2 else 0)else 5
 | [],_,_,_=>rfl
 | x::l,[],_,a=>by simp at a
 | x::l,d::b,m,a=>by
  have ih:=AM g l b (ny x d m) (by simpa using a);simp only[C7,nR];by_cases f:cJ x=true
  ·have e:(x::l).all cJ=l.all cJ:=by simp[f]
   rw[if_pos f,ih];by_cases c:l.all cJ=true
   ·rw[if_pos c,if_pos (e.trans c)];rfl
   ·rw[if_neg c,if_neg (λa=>c (e.symm.trans a))]
  ·rw[if_neg f,if_neg (λa=>f (cu.1 a x (by simp)))]
theorem ru:(l r:List Nd)->(a es:List Int)->(m:Int)->l.length=a.length->nR (l++r) (a++es) m=nR r es (nR l a m)
 | [],_,[],_,_,_=>rfl
 | [],_,_::_,_,_,h=>by simp at h
 | _::_,_,[],_,_,h=>by simp at h
 | x::l,r,d::a,es,m,h=>by
  simp only[eL,nR];exact ru l r a es _ (by simpa using h)
theorem A7{n:Nat}(c:Int):(p:List (Tm n))->(m e:Int)->p.foldl (λm y=>max m (c+fI n y)) (max m (c+e))=max m (c+p.foldl (λm y=>max m (fI n y)) e)
 | [],_,_=>rfl
 | y::p,m,e=>by
  simp only[gD];have a:max (max m (c+e)) (c+fI n y)=max m (c+max e (fI n y)):=by omega
  rw[a];exact A7 c p m (max e (fI n y))
theorem AW:(n:Nat)->(x:Tm n)->(d m:Int)->(∀a∈aC n x,cJ a=true)->d<=m->nR (aC n x) (pU n x d) m=max m (d+fI n x)
 | 0,x,_,_,h,_=>by
  have:=h ((0,0,.empty),(none,0,0)) (by simp[aC]);rcases kC _ this with g|g|g|g|g|⟨g,_⟩<;>simp at g
 | n+1,x,d,m,h,k=>by
  have f:=h (bI n x) (by simp[aC,bI]);have key:∀(p:List (Tm n))(m:Int),(∀y∈p,y∈x.2.2)->d+1<=m->nR (p.flatMap λy=>aC n y) (p.flatMap λy=>pU n y (d+1)) m=p.foldl (λm y=>max m (d+1+fI n y)) m:=by
   intro p
   induction p with
   | nil=>intro m _ _;rfl
   | cons y p ih=>
    intro m l k;simp only[bK,gD];rw[ru _ _ _ _ _ (ko n y (d+1)).symm,AW n y (d+1) m (λa q=>h a (oZ (l y (by simp)) q)) k];exact ih _ (λu t=>l u (by simp[t])) (by omega)
  have o:nR (aC (n+1) x) (pU (n+1) x d) m=nR (x.2.2.flatMap λy=>aC n y) (x.2.2.flatMap λy=>pU n y (d+1)) (ny (bI n x) d m):=rfl;rw[o];simp only[fI];by_cases b:x.1.1=4
  ·rw[if_pos b];have c:ny (bI n x) d m=max m (d+1+0):=by
    unfold ny bI;by_cases j:m<d+1
    ·rw[if_pos ⟨b,j⟩];omega
    ·rw[if_neg (λi=>j i.2)];omega
   rw[c,key x.2.2 _ (λ_ s=>s) (by omega),A7];omega
  ·rw[if_neg b];have r:x.2.2=[]:=by
    unfold cJ at f;simp only[aK,iB,cF]at f;rcases f.2 with e|e
    ·exact(b e).elim
    ·have:¬(0:Int)<(x.2.2.length:Int):=by simpa [bI]using e
     exact bJ (by omega)
   have c:ny (bI n x) d m=m:=Gg _ (λi=>b i.1);rw[r,c];simp only[List.flatMap_nil,nR];omega
theorem gz(n:Nat)(x:Tm n):wX n x=bE n x:=by
 unfold wX bE;rw[AM _ _ _ _ (ko n x 0).symm,<-lN n x];by_cases a:ch n x=true
 ·rw[if_pos a,if_pos a];have d:∀b∈aC n x,cJ b=true:=by
   rw[lN n x]at a;exact λb c=>cu.1 a b c
  have e:=gd n x;rw[AW n x 0 0 d (by omega)];have:max (0:Int) (0+fI n x)=fI n x:=by omega
  rw[this]
 ·rw[if_neg a,if_neg a]
theorem dQ(n:Nat)(x:Tm n)(B:Nat)(w:ag)(c:In B w n x)(a:B<=w.heap.size)(b:(aC n x).length<=2097152):am 53 #[dw n x] w λe w'=>e=.returned (ab (bE n x))/\ak w w':=by
 rw[<-gz];exact Ct n x B w c a b
def KO(x:Nd):Bool:= !(x.1.1==5) && !(x.1.1==6)
def km(n:Nat)(x:Tm n):Bool:=(aC n x).all KO
def aS:(n:Nat)->Tm n->Bool
 | 0,_=>true
 | n+1,x=> !(x.1.1==5) && !(x.1.1==6) && x.2.2.all λy=>aS n y
theorem fF:(n:Nat)->(x:Tm n)->aS n x=km n x
 | 0,_=>by simp[aS,km,aC,KO]
 | n+1,x=>by
  have key:∀l:List (Tm n),(l.all λy=>aS n y)=(l.flatMap λy=>aC n y).all KO:=by
   intro l
   induction l with
   | nil=>rfl
   | cons y l ih=>
    have:=fF n y;unfold km at this;simp only[jn,bK,kM,ih,this]
  show (!(x.1.1==5) && !(x.1.1==6) && x.2.2.all λy=>aS n y)=(KO (x.1,(x.2.1.1,x.2.2.length,x.2.1.2)) && (x.2.2.flatMap λy=>aC n y).all KO);rw[key];rfl
def OX(n:Nat):Prop:=∀(x:Tm n)(B:Nat)(w:ag),In B w n x->B<=w.heap.size->
 am 54 #[dw n x] w λe w'=>e=.returned (.bool (aS n x))/\ak w w'
theorem AS(n:Nat)(ih:OX n)(h I:Int)(s:ap)(a:aw)(pc len:Nat)(p:List (Tm n))(C:Hid (p.length=len))(B:Nat)(w:ag)(g:Hid (p=[]\/∃b o,a=some ⟨b,o,none⟩/\b<B/\∀(i:Nat)(y:Tm n),p[i]?=some y->dH w b (o+i*4) n y/\In B w n y))(M:len<=9223372036854775807)(r:B<=w.heap.size):am 54 #[.agg #[ab h,ab I,af s,ae a len pc]] w λe w'=>e=.returned (.bool (!(h==5) && !(h==6) && p.all λy=>aS n y))/\ak w w':=by
 cases h5:h==5
 case true=>
  go_enter func54,ntmps54;go_wp2_with fail
  go_ret
  exact⟨bU (by simp),(aq _ _).alloc (ao _) _⟩
 cases h6:h==6
 case true=>
  go_enter func54,ntmps54;go_wp2_with fail
  go_ret
  exact⟨bU (by simp),(aq _ _).alloc (ao _) _⟩
 have v:(!false && !false && p.all λy=>aS n y)=p.all λy=>aS n y:=by simp
 rw[v];clear v;go_enter func54,ntmps54;go_wp2_with fail;go_loopw [16] (λi wr=>∃k:Nat,k<=len/\i=ab k/\ak w wr/\Hid (((p.drop k).all λy=>aS n y)=p.all λy=>aS n y)) (λi _=>len-(intOf i).toNat)
 case atStart=>exact⟨0,by omega,rfl,(aq _ _).alloc (ao _) _,rfl⟩
 case round=>
  obtain⟨k,J,rfl,d,t⟩:=hrel;by_cases F:k<len
  ·obtain⟨c,l⟩:∃c,p[k]?=some c:=⟨p[k]'(by rw[C.out];exact F),aM _⟩;have u:Hid (((p.drop k).all λy=>aS n y)=(aS n c && (p.drop (k+1)).all λy=>aS n y)):=by
    obtain⟨j,E⟩:=aX.1 l;rw[eM j,E];rfl
   rcases g.out with g|⟨N,po,rfl,G,g⟩
   ·subst g;simp at l
   obtain⟨m,q⟩:=g k c l;replace m:=m.below (d.mono r) G;replace q:=q.below (d.mono r);clear g l;cases n with
   | zero=>exact m.elim
   | succ n=>
   obtain⟨O,P,Q,R⟩:=m;have x:B<=wr.heap.size:=aD r d.size
   have D:Hid (∀f,ak wr f->am 54 #[.agg #[ab c.1.1,ab c.1.2.1,af c.1.2.2,ae c.2.1.1 c.2.2.length c.2.1.2]] f λe w'=>e=.returned (.bool (aS (n+1) c))/\ak f w'):=
    λf j=>ih c B f (q.below (j.mono x)) (aD x j.size)
   clear ih q;generalize c.2.2.length=S at*;generalize aS (n+1) c=H at*;have K:(0:Int)<=(k:Int):=by omega
   have L:(k:Int)<(len:Int):=by omega
   go_wp2_with fail;refine(D _ ((aq _ _).alloc (ao _) _)).mono ?_;rintro e f ⟨rfl,z⟩;have A:ak w f:=(d.trans (((aq _ _).alloc (ao _) _).mono d.size)).trans (z.mono (by have:=d.size;simp;omega));clear z;cases H with
   | true=>
    go_wp2_with fail;go_roundw
    case rel=>exact⟨k+1,by omega,by go_num,A,by rw[<-t.out,u.out];rfl⟩
    case measure=>simp[intOf];omega
   | false=>
    go_wp2_with fail
    go_ret
    exact⟨bU (by rw[<-t.out,u.out];rfl),A⟩
  ·go_wp2_with fail
   go_ret
   refine⟨bU ?_,d⟩;rw[<-t.out,gC (by rw[C.out];omega)];rfl
theorem iS(n:Nat):OX n:=by
 induction n with
 | zero=>intro g b f a;exact a.elim
 | succ n ih=>
  intro g b f a i;obtain⟨⟨k,m,l⟩,⟨h,pc⟩,e⟩:=g;obtain⟨⟨_,_,_,j,d⟩,c⟩:=a;simp only at j d c;unfold maxLen at d;exact AS n ih k m l h pc e.length e rfl b f c (by omega) i
variable {base n N:Nat} {wp:BL} {mo:Option Nat} {f:Int×Int->List (Tm N)} {sl:Int×Int->Value} {w:World}
theorem oc.at{v:Value}{l:List (Tm N)}(d:oc base N v l w):∃a c,v=.slice a l.length c/\w.ownsRow base 31 4 (.slice a l.length c) l.length (dv N l):=by
 obtain⟨a,c,b⟩:=d.sliced;refine⟨a,c,b,?_⟩;rw[<-b];exact d
theorem FJ(y:Tm (N+1)):vA (gu (N+1) y)=[.int .i64 y.1.1,.int .i64 y.1.2.1,.string y.1.2.2,.slice y.2.1.1 y.2.2.length y.2.1.2]:=rfl
theorem wF{e:Nat}(h:ii base wp (some e) n N f sl w):wp.b≠e:=by
 intro g;obtain⟨_,i,c⟩:=h;rcases c with⟨c,_⟩|⟨m,a,j⟩
 ·cases c
 ·injection a with a;subst a g;obtain⟨k,⟨es,l,d,_⟩,_⟩:=j.map;rw[i.2]at d;cases d
theorem Ap(c:ii base wp mo n N f sl w)(g:I2 k):(sl k).ownBlock≠some wp.b:=by
 intro d;obtain⟨h,a⟩:=eC (c.row g) wp.b d;rw[c.2.1.2]at a;injection a with a;injection a with _ e _;exact c.2.1.1.2 e
theorem LJ{f:Int×Int->List (Tm (N+1))}(d:ii base wp mo n (N+1) f sl w)(i:I2 k)(y:Tm (N+1))(ad:n<999999)(W:(f k).length<1000):Calls Tryz.prog 161 #[.pointer (some ⟨wp.b,wp.o,none⟩),pk k,dw (N+1) y] w λe w'=>e=.returned (.tuple #[])/\NZ base wp mo n (N+1) f sl k (f k++ [y]) w w':=by
 have v:=d.lt wp.b (ai rfl);rcases d.2.2 with⟨rfl,rfl,rfl⟩|⟨m,rfl,D⟩
 ·obtain⟨wr,j⟩:∃wr,wr=(((w.alloc (.cells #[.int .i64 k.1,.int .i64 k.2] 44)).alloc (.cells #[.int .i64 y.1.1,.int .i64 y.1.2.1,.string y.1.2.2,.slice y.2.1.1 y.2.2.length y.2.1.2] 31)).alloc (.map #[] 0)).setCell ⟨wp.b,wp.o,none⟩ (.map (some (w.heap.size+1+1))):=⟨_,rfl⟩;have Y:wr.heap.size=w.heap.size+3:=by rw[j];simp[World.setCell]
  have T:bB (λb=>b=wp.b) w wr:=by
   rw[j];refine bB.trans (aO (((((aq w.heap.size w).alloc (ao _) _).alloc (by simp) _).alloc (by simp;omega) _)) _) (bH _ wp.b wp.o _) λ_ _ e=>e
  have Z:tH wp (some (w.heap.size+1+1)) wr:=by
   rw[j];exact(d.2.1.kept (((((aq w.heap.size w).alloc (ao _) (.cells #[.int .i64 k.1,.int .i64 k.2] 44)).alloc (by simp) (.cells #[.int .i64 y.1.1,.int .i64 y.1.2.1,.string y.1.2.2,.slice y.2.1.1 y.2.2.length y.2.1.2] 31)).alloc (by simp;omega) (.map #[] 0)).block wp.b v.2)).set
  have l:GM base (w.heap.size+1+1) n (N+1) (λ_=> []) (λ_=>mH) wr:=by
   have P:=GM.new ((w.alloc (.cells #[.int .i64 k.1,.int .i64 k.2] 44)).alloc (.cells #[.int .i64 y.1.1,.int .i64 y.1.2.1,.string y.1.2.2,.slice y.2.1.1 y.2.2.length y.2.1.2] 31)) (N+1);have e:((w.alloc (.cells #[.int .i64 k.1,.int .i64 k.2] 44)).alloc (.cells #[.int .i64 y.1.1,.int .i64 y.1.2.1,.string y.1.2.2,.slice y.2.1.1 y.2.2.length y.2.1.2] 31)).heap.size=w.heap.size+1+1:=by simp
   rw[e]at P
   have Q:=(P.kee (bH _ wp.b wp.o (.map (some (w.heap.size+1+1)))) λb a e=>by
    rcases a with a|⟨x,_,a⟩
    ·omega
    ·simp[mH,Value.ownBlock]at a)
   rw[<-j]at Q;exact(Q.rebase (by omega)).mono (aL _)
  refine(EP wp (w.heap.size+1+1) k.1 k.2 y.1.1 y.1.2.1 y.1.2.2 y.2.1.1 y.2.2.length y.2.1.2 0 0 none [] base w wr (λh r p=>NN base (w.heap.size+1+1) n (N+1) (λ_=> []) (λ_=>mH) k r h p) (λw'=>NZ base wp none n (N+1) (λ_=> []) (λ_=>mH) k ([]++ [y]) w w') (by omega) (by omega) v.2 (aj ⟨rfl,j,λb a=>by simp[Value.ownBlock]at a,d.2.1⟩) ?_ ?_ ?_).mono λe w' d=>d
  ·intro h g;exact⟨rfl,ai ⟨rfl,rfl⟩⟩
  ·intro h g;exact l.open i (by omega) g
  ·intro h r p R ab S c C g F J B t H s;obtain⟨O,I,E,G,K⟩:=NN.done l i C g F J B t (y:=y) (L:=0) rfl (by simpa [dv,cH,FJ]using H) s;refine⟨O,I,?_,G,K⟩;obtain⟨aa,z,q,A⟩:=E;have M:¬Ny (w.heap.size+1+1) (λ_=>mH) wp.b:=by
    rintro (e|⟨x,_,e⟩)
    ·omega
    ·simp[mH,Value.ownBlock]at e
   refine⟨some (w.heap.size+1+1),_,⟨d.1,Z.kept (q.block wp.b (by omega) M),aj ⟨_,rfl,z⟩⟩,?_,λb a=>?_⟩
   ·refine bB.trans (T.mono λb _ e=>ai e) q λb a e=>?_;rcases e with e|⟨x,_,e⟩
    ·omega
    ·simp[mH,Value.ownBlock]at e
   ·rcases a with a|a|a
    ·exact ai (ai a)
    ·injection a with a;exact aj (by omega)
    ·rcases A b (aj a)with(e|⟨x,_,e⟩)|e
     ·exact aj (by omega)
     ·simp[mH,Value.ownBlock]at e
     ·exact aj (by omega)
 ·obtain⟨sa,sc,u,ae⟩:=(D.row k i).at;have X:=D.lt m (ai rfl);obtain⟨wr,j⟩:∃wr,wr=(w.alloc (.cells #[.int .i64 k.1,.int .i64 k.2] 44)).alloc (.cells #[.int .i64 y.1.1,.int .i64 y.1.2.1,.string y.1.2.2,.slice y.2.1.1 y.2.2.length y.2.1.2] 31):=⟨_,rfl⟩;have a:Below w.heap.size w wr:=by
   rw[j];exact((aq _ _).alloc (ao _) _).alloc (by simp) _
  have Y:wr.heap.size=w.heap.size+2:=by rw[j];simp
  have l:GM base m n (N+1) f sl wr:=D.kee (aO a λ_=>False) λ_ _ U=>U;refine(EP wp m k.1 k.2 y.1.1 y.1.2.1 y.1.2.2 y.2.1.1 y.2.2.length y.2.1.2 (f k).length sc sa (dv (N+1) (f k)) base w wr (λh r p=>NN base m n (N+1) f sl k r h p) (λw'=>NZ base wp (some m) n (N+1) f sl k (f k++ [y]) w w') W (by omega) v.2 (ai ⟨X.2,wF d,j,λb a=>?_,d.cell.1⟩) ?_ ?_ ?_).mono λe w' d=>d
  ·rw[<-u]at a;exact⟨((d.row i).lt b a).2,λe=>Ap d i (by rw[a,e])⟩
  ·intro h g;rw[<-u];exact bu (l.row k i) g λb a e=>l.ne i (by rw[a,e])
  ·intro h g;rw[<-u];exact l.open i (by omega) g
  ·intro h r p R ab S c C g F J B t H s;rw[<-u]at t s;obtain⟨O,I,E,G,K⟩:=NN.done l i C g F J B t (y:=y) (L:=(f k).length) rfl (by simpa [FJ]using H) s;refine⟨O,I,?_,G,K⟩;obtain⟨aa,z,q,A⟩:=E;have M:¬Ny m sl wp.b:=by
    rintro (e|⟨x,V,e⟩)
    ·exact wF d e
    ·exact Ap d V e
   refine⟨some m,_,⟨d.1,(d.2.1.kept (a.block wp.b v.2)).kept (q.block wp.b (by omega) M),aj ⟨_,rfl,z⟩⟩,?_,λb a=>?_⟩
   ·exact bB.trans (aO a _) q λb _ e=>Ff e
   ·rcases a with a|a|a
    ·exact ai (ai a)
    ·injection a with a;exact ai (aj (ai (by rw[a])))
    ·rcases A b (aj a)with e|e
     ·exact ai (Ff e)
     ·exact aj (by omega)
theorem rn(x y:Int)(w:ag):am 97 #[ab x,ab y] w λe w'=>e=.returned (ab (lG x y))/\w'=w:=by
 go_enter func97,ntmps97;go_wp2
 all_goals go_ret
 all_goals refine⟨ju ?_,rfl⟩
 all_goals unfold lG
 all_goals (repeat' split)<;>omega
theorem Ji(x y:ap)(w:ag):am 204 #[af x,af y] w λe w'=>e=.returned (ab (wK x y))/\w'=w:=by
 go_enter func204,ntmps204;go_wp2
 all_goals go_ret
 all_goals refine⟨ju ?_,rfl⟩
 all_goals unfold wK
 all_goals simp[*]
attribute [local go_sem ↓] Go.wp_at_zero Go.wp_at_succ
def F5(n:Nat):Prop:=∀(x:Tm n)(m:Nat)(y:Tm m)(B:Nat)(w:ag),In B w n x->In B w m y->B<=w.heap.size->
 am 200 #[dw n x,dw m y] w λe w'=>e=.returned (ab (xL n x m y))/\ak w w'
theorem LR(p q:Nat)(a c:aw)(pc d:Nat)(w:ag)(_hpc:p<=9223372036854775807)(_hqc:q<=9223372036854775807)(b:((p:Int)==(q:Int))=false):am 205 #[ae a p pc,ae c q d] w λe w'=>e=.returned (ab (lG p q))/\w'=w:=by
 have f:((p:Int) !=(q:Int))=true:=by simpa using b
 go_enter func205,ntmps205;go_wp2_with (go_at_call 97;refine(rn _ _ _).mono ?_;rintro e w' ⟨rfl,rfl⟩)
 go_ret
 exact⟨rfl,rfl⟩
theorem LQ(n m:Nat)(ih:F5 n)(p:List (Tm n))(q:List (Tm m))(len:Nat)(M:Hid (p.length=len))(V:Hid (q.length=len))(g po h l pc X:Nat)(B:Nat)(w:ag)(ai:len<=9223372036854775807)(T:g<B)(U:h<B)(L:∀(i:Nat)(y:Tm n),p[i]?=some y->dH w g (po+i*4) n y/\In B w n y)(N:∀(i:Nat)(y:Tm m),q[i]?=some y->dH w h (l+i*4) m y/\In B w m y)(o:B<=w.heap.size):am 205 #[ae (some ⟨g,po,none⟩) len pc,ae (some ⟨h,l,none⟩) len X] w λe w'=> e=.returned (ab (pP (λa b=>xL n a m b) p q))/\ak w w':=by
 go_enter func205,ntmps205;go_wp2_with fail;go_loopw [19] (λi wr=>∃k:Nat,k<=len/\i=ab k/\ak w wr/\Hid (pP (λa b=>xL n a m b) (p.drop k) (q.drop k)=pP (λa b=>xL n a m b) p q)) (λi _=>len-(intOf i).toNat)
 case atStart=>exact⟨0,by omega,rfl,aq _ _,rfl⟩
 case round=>
  obtain⟨k,aa,rfl,f,z⟩:=hrel;by_cases K:k<len
  ·obtain⟨c,A⟩:∃c,p[k]?=some c:=⟨p[k]'(by rw[M.out];exact K),aM _⟩;obtain⟨y,C⟩:∃y,q[k]?=some y:=⟨q[k]'(by rw[V.out];exact K),aM _⟩;obtain⟨s,t⟩:=L k c A;obtain⟨u,v⟩:=N k y C;have E:Hid (pP (λa b=>xL n a m b) (p.drop k) (q.drop k)=if xL n c m y=0 then pP (λa b=>xL n a m b) (p.drop (k+1)) (q.drop (k+1))else xL n c m y):=G9 (λa b=>xL n a m b) p q k c y A C;replace s:=s.below (f.mono o) T;replace u:=u.below (f.mono o) U;replace t:=t.below (f.mono o);replace v:=v.below (f.mono o);clear L N A C;cases n with
   | zero=>exact s.elim
   | succ n=>
   cases m with
   | zero=>exact u.elim
   | succ m=>
   obtain⟨an,ao,ap,ar⟩:=s;obtain⟨y0,y1,y2,av⟩:=u;have J:∀(d:ag),In B d (n+1) c->In B d (m+1) y->B<=d.heap.size->am 200 #[.agg #[ab c.1.1,ab c.1.2.1,af c.1.2.2,ae c.2.1.1 c.2.2.length c.2.1.2],.agg #[ab y.1.1,ab y.1.2.1,af y.1.2.2,ae y.2.1.1 y.2.2.length y.2.1.2]] d λe w'=>e=.returned (ab (xL (n+1) c (m+1) y))/\ak d w':=λd P Q R=>ih c (m+1) y B d P Q R;have D:=au J;clear J ih;have F:=au t;have G:=au v;clear t v;generalize xL (n+1) c (m+1) y=r at*;generalize c.2.2.length=Y at*;generalize y.2.2.length=yl at*;have ad:(0:Int)<=(k:Int):=by omega
   have ah:(k:Int)<(len:Int):=by omega
   have S:B<=wr.heap.size:=aD o f.size;have O:=au (D wr.drew (F.below (aq _ _).drew) (G.below (aq _ _).drew) S);have aj:g<wr.heap.size:=by omega
   have al:h<wr.heap.size:=by omega
   clear D F G;go_wp2_with fail
   go_region_held3 (λw'=>w'.cell? ⟨g,po+k*4,none⟩=some (ab c.1.1)/\w'.cell? ⟨g,po+k*4+1,none⟩=some (ab c.1.2.1)/\w'.cell? ⟨g,po+k*4+2,none⟩=some (af c.1.2.2)/\w'.cell? ⟨g,po+k*4+3,none⟩=some (ae c.2.1.1 Y c.2.1.2)
       /\w'.cell? ⟨h,l+k*4,none⟩=some (ab y.1.1)/\w'.cell? ⟨h,l+k*4+1,none⟩=some (ab y.1.2.1)/\w'.cell? ⟨h,l+k*4+2,none⟩=some (af y.1.2.2)/\w'.cell? ⟨h,l+k*4+3,none⟩=some (ae y.2.1.1 yl y.2.1.2))
    (go_keep) ((go_at_call 200;refine O.mono ?_;rintro e d ⟨rfl,H⟩;have Z:=ax (cR H)))
   have I:ak w d:=f.trans ((cR H).mono f.size);by_cases j:r=0
   ·have x:Hid (r=0):=j;have W:(r !=0)=false:=by rw[j];rfl
    clear j;go_wp2_with fail;go_roundw
    case rel=>exact⟨k+1,by omega,by go_num,I,by rw[<-z.out,E.out,if_pos x.out];rfl⟩
    case measure=>simp[intOf];omega
   ·have x:Hid (¬r=0):=j;have W:(r !=0)=true:=by simpa using j
    clear j;go_wp2_with fail
    go_ret
    exact⟨ju (by rw[<-z.out,E.out,if_neg x.out]),I⟩
  ·go_wp2_with fail
   go_ret
   refine⟨ju ?_,f⟩;rw[<-z.out,gC (by rw[M.out];omega)];rfl
theorem AF(n m:Nat)(a c:aw)(pc d:Nat)(w:ag):am 205 #[.slice a ([]:List (Tm n)).length pc,.slice c ([]:List (Tm m)).length d] w λe w'=>e=.returned (ab (pP (λa b=>xL n a m b) [] []))/\ak w w':=by
 show am 205 #[ae a 0 pc,ae c 0 d] w λe w'=>e=.returned (ab 0)/\ak w w';go_enter func205,ntmps205;go_wp2_with fail
 go_loop [19] (λf=>f=ab 0) (λ_=>0)
 case atStart=>rfl
 case round=>
  obtain rfl:=hrel;go_wp2_with fail
  go_ret
  exact⟨rfl,aq _ _⟩
theorem DS(w:ag)(k b u h:Int)(s g:ap)(a c:aw)(pl f pc d:Nat)(e:¬k=b):am 200 #[.agg #[ab k,ab u,af s,ae a pl pc],.agg #[ab b,ab h,af g,ae c f d]] w λe w'=>e=.returned (ab (lG k b))/\ak w w':=by
 have i:(k !=b)=true:=by simpa using e
 clear e;go_enter func200,ntmps200;go_wp2_with (go_at_call 97;refine(rn _ _ _).mono ?_;rintro e w' ⟨rfl,rfl⟩)
 go_ret
 exact⟨rfl,((aq _ _).alloc (ao _) _).alloc (by simp) _⟩
theorem sI(w:ag)(k u d:Int)(s c:ap)(a f:aw)(pl h pc g:Nat)(r:Int)(b:k=1\/k=3\/k=5):am 200 #[.agg #[ab k,ab u,af s,ae a pl pc],.agg #[ab k,ab d,af c,ae f h g]] w λe w'=>e=.returned (ab (if k=1\/k=3\/k=5 then lG u d else if k=2 then wK s c else if k=4 then r else 0))/\ak w w':=by
 rw[if_pos b];rcases b with rfl|rfl|rfl
 all_goals
  go_enter func200,ntmps200;go_wp2_with (go_at_call 97;refine(rn _ _ _).mono ?_;rintro e w' ⟨rfl,rfl⟩)
  go_ret
  exact⟨rfl,((aq _ _).alloc (ao _) _).alloc (by simp) _⟩
theorem Hb(w:ag)(u g:Int)(s b:ap)(a c:aw)(pl f pc d:Nat):am 200 #[.agg #[ab 2,ab u,af s,ae a pl pc],.agg #[ab 2,ab g,af b,ae c f d]] w λe w'=>e=.returned (ab (wK s b))/\ak w w':=by
 go_enter func200,ntmps200;go_wp2_with (go_at_call 204;refine(Ji _ _ _).mono ?_;rintro e w' ⟨rfl,rfl⟩)
 go_ret
 exact⟨rfl,((aq _ _).alloc (ao _) _).alloc (by simp) _⟩
theorem DR(w:ag)(k u m:Int)(s l:ap)(a h:aw)(pl j pc i:Nat)(b:¬k=1)(c:¬k=2)(d:¬k=3)(f:¬k=4)(g:¬k=5):am 200 #[.agg #[ab k,ab u,af s,ae a pl pc],.agg #[ab k,ab m,af l,ae h j i]] w λe w'=>e=.returned (ab 0)/\ak w w':=by
 have n:(k==1)=false:=by simpa using b
 have o:(k==2)=false:=by simpa using c
 have p:(k==3)=false:=by simpa using d
 have q:(k==4)=false:=by simpa using f
 have r:(k==5)=false:=by simpa using g
 clear b c d f g;go_enter func200,ntmps200;go_wp2_with fail
 go_ret
 exact⟨rfl,((aq _ _).alloc (ao _) _).alloc (by simp) _⟩
theorem Hc(w:ag)(u j:Int)(s i:ap)(a b:aw)(pl f pc d:Nat)(r:Int)(c:∀w1:ag,ak w w1->am 205 #[ae a pl pc,ae b f d] w1 λe w'=>e=.returned (ab r)/\ak w1 w'):am 200 #[.agg #[ab 4,ab u,af s,ae a pl pc],.agg #[ab 4,ab j,af i,ae b f d]] w λe w'=>e=.returned (ab r)/\ak w w':=by
 have g:=au c;clear c;go_enter func200,ntmps200;go_wp2_with fail;refine(g _ (((aq _ _).alloc (ao _) _).alloc (by simp) _)).mono ?_;rintro e w' ⟨rfl,h⟩;go_wp2_with fail
 go_ret
 exact⟨rfl,(((aq _ _).alloc (ao _) _).alloc (by simp) _).trans (h.mono (by simp;omega))⟩
theorem Ha(n:Nat):F5 n:=by
 induction n with
 | zero=>intro U g s H w G;exact G.elim
 | succ n ih=>
  intro U g s H w G q v;cases g with
  | zero=>exact q.elim
  | succ g=>
  obtain⟨⟨k,j,h⟩,⟨a,pc⟩,c⟩:=U;obtain⟨⟨z,l,i⟩,⟨f,e⟩,d⟩:=s;obtain⟨⟨M,Y,S,P,E⟩,o⟩:=G;obtain⟨⟨N,Z,T,R,F⟩,p⟩:=q;simp only at M Y S P E o N Z T R F p
  show am 200 #[.agg #[ab k,ab j,af h,ae a c.length pc],.agg #[ab z,ab l,af i,ae f d.length e]] w λm B=>m=.returned (ab (if k=z then
   if k=1\/k=3\/k=5 then lG j l else if k=2 then wK h i else if k=4 then if c.length=d.length then pP (λa b=>xL n a g b) c d else lG c.length d.length
   else 0 else lG k z))/\ak w B
  have V:∀r:ag,ak w r->am 205 #[ae a c.length pc,ae f d.length e] r λm B=>m=.returned (ab (if c.length=d.length then pP (λa b=>xL n a g b) c d else lG c.length d.length))/\ak r B:=by
   intro r x;unfold maxLen at E F;by_cases t:c.length=d.length
   ·rw[if_pos t];rcases o with o|⟨aa,po,rfl,O,o⟩
    ·subst o;have X:d=[]:=bJ t.symm;subst X;exact AF n g a f pc e r
    ·rcases p with p|⟨ad,ah,rfl,Q,p⟩
     ·subst p;have W:c=[]:=bJ t;subst W;exact AF n g _ f pc e r
     ·have L:=LQ n g ih c d c.length rfl t.symm aa po ad ah pc e H r (by omega) O Q (λy s q=>⟨(o y s q).1.below (x.mono v) O,(o y s q).2.below (x.mono v)⟩)
        (λy s q=>⟨(p y s q).1.below (x.mono v) Q,(p y s q).2.below (x.mono v)⟩) (aD v x.size)
      rw[t]at L;rw[t];exact L
   ·rw[if_neg t];refine(LR c.length d.length a f pc e r (by omega) (by omega) (by simp;omega)).mono ?_;rintro m B ⟨rfl,rfl⟩;exact⟨rfl,aq _ _⟩
  generalize (if c.length=d.length then pP (λa b=>xL n a g b) c d else lG c.length d.length)=A at*;clear o p ih P E R F S T v;generalize c.length=pl at*;generalize d.length=u at*;obtain⟨al,ao⟩:=M;obtain⟨an,ap⟩:=N;by_cases m:k=z
  ·subst m;rw[if_pos rfl];by_cases I:k=1
   ·subst I;exact sI w 1 j l h i a f pl u pc e A (ai rfl)
   by_cases J:k=3
   ·subst J;exact sI w 3 j l h i a f pl u pc e A (aj (ai rfl))
   by_cases K:k=5
   ·subst K;exact sI w 5 j l h i a f pl u pc e A (aj (aj rfl))
   rw[if_neg (by omega)];by_cases C:k=2
   ·subst C;exact Hb w j l h i a f pl u pc e
   rw[if_neg C];by_cases D:k=4
   ·subst D;exact Hc w j l h i a f pl u pc e A V
   rw[if_neg D];exact DR w k j l h i a f pl u pc e I C J D K
  ·rw[if_neg m];exact DS w k z j l h i a f pl u pc e m
theorem jA(k u:Int)(s:ap)(a:aw)(l c:Nat)(w:ag):am 197 #[.agg #[ab k,ab u,af s,ae a l c]] w λe w'=>e=.returned (.bool (!(k==6)))/\ak w w':=by
 cases h:k==6
 all_goals
  go_enter func197,ntmps197;go_wp2_with fail
  go_ret
  exact⟨fe (by simp[bne,h]),(aq _ _).alloc (ao _) _⟩
theorem BQ(x:An)(y:An)(B:Nat)(w:ag)(d:FO B w x)(f:FO B w y)(b:B<=w.heap.size)(g:aI x)(h:aI y):am 200 #[dw x.1 x.2,dw y.1 y.2] w λe w'=>∃r,e=.returned (ab r)/\Hid ((r==0)=ez x y)/\ak w w':=by
 refine(Ha x.1 x.2 y.1 y.2 B w d f b).mono ?_;rintro e w' ⟨rfl,c⟩;refine⟨_,rfl,?_,c⟩;have a:=BP x.1 x.2 y.1 y.2 g h;unfold Hid ez;cases hs:aB x.1 x.2 y.1 y.2
 ·rw[hs]at a;simp only[pr,iff_false]at a;simpa using a
 ·rw[hs]at a;simp only[iff_true]at a;simpa using a
theorem JM(b:List An)(base g c B:Nat)(w:ag)(k:Nat)(K:k<4)(m:Nat)(t:Tm (m+1))(y:CP B w b)(M:In B w (m+1) t)(L:aI ⟨m+1,t⟩)(Y:B<=base)(H:ns base g c b w):am 198 #[ae (some ⟨g,0,none⟩) 4 c,ab k,.agg #[ab t.1.1,ab t.1.2.1,af t.1.2.2,ae t.2.1.1 t.2.2.length t.2.1.2]] w (eV base g c (uS b k ⟨m+1,t⟩) w):=by
 obtain⟨a,v⟩:∃a,b[k]?=some a:=⟨b[k]'(by rw[y.1];exact K),aM _⟩;obtain⟨E,N⟩:=y.2 a (aN v);obtain⟨n,a⟩:=a;cases n with
 | zero=>exact E.elim
 | succ n=>
 have D:Hid (uS b k ⟨m+1,t⟩=if a.1.1=6 then some (b.set k ⟨m+1,t⟩)else if ez ⟨n+1,a⟩ ⟨m+1,t⟩then some b else none):=by simp only[Hid,uS,v,b8];rfl
 obtain⟨j,l,p,q⟩:=H.cells k _ v;simp only[tm,gu,bI]at j l p q;have ai:(0:Int)<=(k:Int):=by omega
 have aj:(k:Int)<4:=by omega
 have A:=au H;have I:=au v;have R:g<w.heap.size:=H.lt.2;clear v H;generalize uS b k ⟨m+1,t⟩=o at*;cases h6:a.1.1==6
 case true=>
  go_enter func198,ntmps198;go_wp2_with fail;refine(jA _ _ _ _ _ _ _).mono ?_;rintro h e ⟨rfl,d⟩;have f:=au d;clear j l p q;have r:Hid (ns base g c b e):=(A.kept (cX w _ none) (by simp)).below d;have aa:=λS=>r.free S;obtain⟨⟨U,V,W,X⟩,_⟩:=ES d;obtain⟨j,l,p,q⟩:=r.out.cells k _ I;simp only[tm,gu,bI]at j l p q;clear d;go_wp2_with fail
  go_ret
  have s:o=some (b.set k ⟨m+1,t⟩):=by rw[D.out,if_pos (by simpa using h6)]
  subst s;exact⟨rfl,lO (cV (((aq _ _).alloc (ao _) _).trans (f.mono (by simp))) _) (D5 _ _ _ _),λJ h=>by obtain rfl:=aA h;exact r.put k ⟨m+1,t⟩ (by rw[y.1];exact K)⟩
 case false=>
  go_enter func198,ntmps198;go_wp2_with fail;refine(jA _ _ _ _ _ _ _).mono ?_;rintro h e ⟨rfl,d⟩;clear j l p q;have f:Hid (ak w e):=((aq _ _).alloc (ao _) _).trans (d.mono (by simp));have r:Hid (ns base g c b e):=(A.kept (cX w _ none) (by simp)).below d;obtain⟨⟨U,V,W,X⟩,_⟩:=ES d;obtain⟨j,l,p,q⟩:=r.out.cells k _ I;simp only[tm,gu,bI]at j l p q;have z:Hid (B<=w.heap.size):=by have:=A.lt;unfold Hid;omega
  have P:Hid (w.heap.size<e.heap.size):=by have:=d.size;simp at this;unfold Hid;omega
  have F:Hid (FO B e ⟨n+1,a⟩/\FO B e ⟨m+1,t⟩):=⟨E.below (f.mono z),FO.below (x:=⟨m+1,t⟩) (f.mono z) M⟩;have Q:=au (BQ ⟨n+1,a⟩ ⟨m+1,t⟩ B e.drew (F.1.below (aq _ _).drew) (F.2.below (aq _ _).drew) (aD z f.size) N L);clear d M E y N L;go_wp2_with fail
  go_region_held3 (λi=>i.cell? ⟨g,k*4,none⟩=some (ab a.1.1)/\i.cell? ⟨g,k*4+1,none⟩=some (ab a.1.2.1)/\i.cell? ⟨g,k*4+2,none⟩=some (af a.1.2.2)/\i.cell? ⟨g,k*4+3,none⟩=some (ae a.2.1.1 a.2.2.length a.2.1.2)
        /\i.cell? ⟨w.heap.size,0,none⟩=some (ab t.1.1)/\i.cell? ⟨w.heap.size,1,none⟩=some (ab t.1.2.1)/\i.cell? ⟨w.heap.size,2,none⟩=some (af t.1.2.2)/\i.cell? ⟨w.heap.size,3,none⟩=some (ae t.2.1.1 t.2.2.length t.2.1.2))
      (go_keep) ((go_at_call 200;refine Q.mono ?_;rintro h O ⟨T,rfl,G,u⟩;have Z:=ax (cR u);have ad:g<e.heap.size:=aW R f.size;have ah:w.heap.size<e.heap.size:=P.out))
  replace u:=cR u;have C:Hid (w.grownBy O (some g)/\ns base g c b O):=⟨cV (f.trans (u.mono f.size)) _,r.below u⟩;have s:o=if ez ⟨n+1,a⟩ ⟨m+1,t⟩then some b else none:=by rw[D.out,if_neg (by simpa using h6)]
  rw[<-G.out]at s;clear G D;cases h0:T==0
  all_goals
   rw[h0]at s;go_wp2_with fail
   go_ret
   simp only[pr,if_false,cY]at s;subst s
  ·exact⟨rfl,C.1,λJ h=>by cases h⟩
  ·exact⟨rfl,C.1,λJ h=>by obtain rfl:=aA h;exact C.2⟩
def BM(n:Nat)(y:Tm n):Bool:=bE n y==0 && (b8 ⟨n,y⟩==6 || km n y)
def gn(n:Nat)(q:List (Tm n)):Bool:=decide (q.length=4) && q.all (BM n)
def fM(B:Nat)(w:ag)(n:Nat)(q:List (Tm n))(a:aw):Prop:=
 q=[]\/∃b o,a=some ⟨b,o,none⟩/\b<B/\∀(d:Nat)(c:Tm n),q[d]?=some c->dH w b (o+d*4) n c/\In B w n c
theorem fM.below{B:Nat}{w w':ag}(d:Below B w w'){n:Nat}{q:List (Tm n)}{a:aw}(k:fM B w n q a):fM B w' n q a:=by
 rcases k with c|⟨b,o,i,e,c⟩
 ·exact ai c
 ·exact aj ⟨b,o,i,e,λg h f=>⟨(c g h f).1.below d e,(c g h f).2.below d⟩⟩
theorem qZ{a:Type}(f:a->Bool)(q:List a)(k:Nat)(y:a)(c:q[k]?=some y):(q.drop k).all f=(f y && (q.drop (k+1)).all f):=by
 obtain⟨d,b⟩:=aX.1 c;rw[eM d,b];rfl
theorem LP(a:aw)(len pc:Nat)(w:ag)(_hl:len<=9223372036854775807)(b:((len:Int) !=4)=true):am 183 #[ae a len pc] w λe w'=>e=.returned (.bool false)/\w'=w:=by
 go_enter func183,ntmps183;go_wp2_with fail
 go_ret
 exact⟨rfl,rfl⟩
theorem FU(n:Nat)(q:List (Tm n))(z po pc:Nat)(B:Nat)(w:ag)(L:Hid (q.length=4))(V:z<B)(K:∀(i:Nat)(y:Tm n),q[i]?=some y->dH w z (po+i*4) n y/\In B w n y)(H:∀y∈q,(aC n y).length<=2097152)(C:B<=w.heap.size):am 183 #[ae (some ⟨z,po,none⟩) 4 pc] w λe w'=>e=.returned (.bool (q.all (BM n)))/\ak w w':=by
 go_enter func183,ntmps183;go_wp2_with fail;go_loopw [10] (λi wr=>∃k:Nat,k<=4/\i=ab k/\ak w wr/\Hid ((q.drop k).all (BM n)=q.all (BM n))) (λi _=>4-(intOf i).toNat)
 case atStart=>exact⟨0,by omega,rfl,aq _ _,rfl⟩
 case round=>
  obtain⟨k,ad,rfl,c,l⟩:=hrel;by_cases U:k<4
  ·obtain⟨a,v⟩:∃a,q[k]?=some a:=⟨q[k]'(by rw[L.out];exact U),aM _⟩;have s:=au (qZ (BM n) q k a v);obtain⟨x,m⟩:=K k a v;have I:=H a (aN v);replace x:=x.below (c.mono C) V;replace m:=m.below (c.mono C);clear K v H;cases n with
   | zero=>exact x.elim
   | succ n=>
   obtain⟨X,Y,Z,aa⟩:=x;have t:B<=wr.heap.size:=aD C c.size
   have F:Hid (∀b,ak wr b->am 53 #[.agg #[ab a.1.1,ab a.1.2.1,af a.1.2.2,ae a.2.1.1 a.2.2.length a.2.1.2]] b λe w'=>e=.returned (ab (bE (n+1) a))/\ak b w'):=
    λb j=>dQ (n+1) a B b (m.below (j.mono t)) (aD t j.size) I
   have R:Hid (∀b,ak wr b->am 54 #[.agg #[ab a.1.1,ab a.1.2.1,af a.1.2.2,ae a.2.1.1 a.2.2.length a.2.1.2]] b λe w'=>e=.returned (.bool (aS (n+1) a))/\ak b w'):=
    λb j=>iS (n+1) a B b (m.below (j.mono t)) (aD t j.size)
   have r:Hid (BM (n+1) a=(bE (n+1) a==0 && (a.1.1==6 || aS (n+1) a))):=by unfold Hid BM;rw[fF];rfl
   clear m I;generalize a.2.2.length=av at*;generalize aS (n+1) a=cl at*;generalize bE (n+1) a=h at*;generalize BM (n+1) a=ok at*;have ah:(0:Int)<=(k:Int):=by omega
   have ai:(k:Int)<(4:Int):=by omega
   have aj:z<wr.heap.size:=by omega
   have E:Hid (∀o,ak wr (wr.alloc o)):=λo=>(aq _ _).alloc (ao _) _;go_wp2_with fail;refine(F _ (E _)).mono ?_;rintro e b ⟨rfl,u⟩;obtain⟨⟨M,N,O,P⟩,_⟩:=ES u;have A:Hid (ak wr b):=(E _).trans (u.mono (by simp));have S:Hid (wr.heap.size<b.heap.size):=by have:=u.size;simp at this;unfold Hid;omega
   clear u X Y Z aa F;by_cases f:h=0
   ·have T:(h !=0)=false:=by simp[f]
    have g:Hid (h=0):=f;clear f;go_wp2_with fail;refine(jA _ _ _ _ _ _ _).mono ?_;rintro e Q ⟨rfl,D⟩;obtain⟨al,an,ap,ar⟩:=od S D ⟨M,N,O,P⟩;have p:Hid (ak wr Q):=A.trans (D.mono A.size);clear D M N O P;cases G:a.1.1==6
    ·simp only[Bool.not_false];go_wp2_with fail;refine(R _ p).mono ?_;rintro e W ⟨rfl,J⟩;have d:ak w W:=c.trans ((p.trans (J.mono p.size)).mono c.size);clear J;cases cl with
     | true=>
      go_wp2_with fail;go_roundw
      case rel=>exact⟨k+1,by omega,by go_num,d,by rw[<-l.out,s.out,r.out,g.out];simp[Hid]⟩
      case measure=>simp[intOf];omega
     | false=>
      go_wp2_with fail
      go_ret
      exact⟨fe (by rw[<-l.out,s.out,r.out,g.out,G];simp),d⟩
    ·simp only[Bool.not_true];have d:ak w Q:=c.trans (p.mono c.size);go_wp2_with fail;go_roundw
     case rel=>exact⟨k+1,by omega,by go_num,d,by rw[<-l.out,s.out,r.out,g.out,G];simp[Hid]⟩
     case measure=>simp[intOf];omega
   ·have T:(h !=0)=true:=by simpa using f
    have g:Hid ((h==0)=false):=by simpa [Hid]using f
    have d:ak w b:=c.trans (A.mono c.size);clear f;go_wp2_with fail
    go_ret
    exact⟨fe (by rw[<-l.out,s.out,r.out,g.out];simp),d⟩
  ·go_wp2_with fail
   go_ret
   refine⟨fe ?_,c⟩;rw[<-l.out,gC (by rw[L.out];omega)];rfl
theorem AE(n:Nat)(q:List (Tm n))(a:aw)(pc B:Nat)(w:ag)(d:fM B w n q a)(i:q.length<=9223372036854775807)(g:∀y∈q,(aC n y).length<=2097152)(f:B<=w.heap.size):am 183 #[ae a q.length pc] w λe w'=>e=.returned (.bool (gn n q))/\ak w w':=by
 unfold gn;by_cases c:q.length=4
 ·rcases d with d|⟨b,o,rfl,h,j⟩
  ·rw[d]at c;simp at c
  ·have k:=FU n q b o pc B w c h j g f;rw[c];simpa using k
 ·refine(LP a q.length pc w i (by simp;omega)).mono ?_;rintro e w' ⟨rfl,rfl⟩;exact⟨by simp[c],aq _ _⟩
def aY:(N:Nat)->(n:Nat)->Tm n->Tm N
 | 0,_,_=>()
 | _+1,0,_=>((0,0,.empty),(none,0),[])
 | N+1,n+1,x=>(x.1,x.2.1,x.2.2.map λy=>aY N n y)
theorem MA(N n:Nat)(x:Tm (n+1)):gu (N+1) (aY (N+1) (n+1) x)=gu (n+1) x:=by simp[gu,bI,aY]
theorem xA(N n:Nat)(g:n<=N)(x:Tm n)(w:ag)(b o:Nat)(k:dH w b o n x):dH w b o N (aY N n x):=by
 cases n with
 | zero=>exact k.elim
 | succ n=>
  obtain⟨N,rfl⟩:∃a,N=a+1:=⟨N-1,by omega⟩;obtain⟨c,d,e,f⟩:=k;exact⟨c,d,e,by simpa [aY]using f⟩
theorem oX:(N n:Nat)->n<=N->(x:Tm n)->(B:Nat)->(w:ag)->In B w n x->In B w N (aY N n x)
 | _,0,_,_,_,_,k=>k.elim
 | 0,n+1,h,_,_,_,_=>by omega
 | N+1,n+1,h,x,B,w,k=>by
  obtain⟨j,a⟩:=k;refine⟨by simpa [aY]using j,?_⟩;rcases a with a|⟨b,o,e,g,a⟩
  ·exact ai (by simp[aY,a])
  ·refine aj ⟨b,o,e,g,λi y d=>?_⟩;simp only[aY,dy]at d;obtain⟨c,f,rfl⟩:=cw.1 d;exact⟨xA N n (by omega) c w b _ (a i c f).1,oX N n (by omega) c B w (a i c f).2⟩
theorem nE:(N n:Nat)->n<=N->(x:Tm (n+1))->aC (N+1) (aY (N+1) (n+1) x)=aC (n+1) x
 | N,0,_,x=>by
  have:∀l:List (Tm 0),(l.map λy=>aY N 0 y).flatMap (λy=>aC N y)=l.flatMap λy=>aC 0 y:=by
   intro l
   induction l with
   | nil=>rfl
   | cons a l ih=>
    simp only[aU,bK,ih];congr 1;cases N with
    | zero=>rfl
    | succ N=>simp[aY,aC]
  simp only[aC,aY,eu,this]
 | 0,n+1,h,_=>by omega
 | N+1,n+1,h,x=>by
  have:∀l:List (Tm (n+1)),(l.map λy=>aY (N+1) (n+1) y).flatMap (λy=>aC (N+1) y)=l.flatMap λy=>aC (n+1) y:=by
   intro l
   induction l with
   | nil=>rfl
   | cons a l ih=>
    simp only[aU,bK,ih];rw[nE N n (by omega) a]
  have b:aC (N+2) (aY (N+2) (n+2) x)=(x.1,(x.2.1.1,(x.2.2.map λy=>aY (N+1) (n+1) y).length,x.2.1.2))::(x.2.2.map λy=>aY (N+1) (n+1) y).flatMap λy=>aC (N+1) y:=rfl;rw[b,this];simp[aC]
def np(b:List An):Nat:=b.foldr (λa m=>max a.1 m) 0
theorem Af(b:List An):∀a∈b,a.1<=np b:=by
 induction b with
 | nil=>intro a d;cases d
 | cons c b ih=>
  intro a d;simp only[np,List.foldr_cons];rcases cv.1 d with rfl|d
  ·omega
  ·have:=ih a d;unfold np at this;omega
def CC(b:List An):List (Tm (np b)):=b.map λa=>aY (np b) a.1 a.2
theorem Le(b:List An)(i:Nat)(y:Tm (np b))(c:(CC b)[i]?=some y):∃a,b[i]?=some a/\a.1<=np b/\y=aY (np b) a.1 a.2:=by
 simp only[CC,dy]at c;obtain⟨a,d,rfl⟩:=cw.1 c;exact⟨a,d,Af b a (aN d),rfl⟩
theorem Lf{base g B:Nat}{w:ag}(e:ns base g c b w)(k:∀y∈b,FO B w y)(j:B<=w.heap.size):fM w.heap.size w (np b) (CC b) (some ⟨g,0,none⟩):=by
 refine aj ⟨g,0,rfl,e.lt.2,λa y m=>?_⟩;obtain⟨d,f,i,rfl⟩:=Le b a y m;have h:=k d (aN f);refine⟨?_,(oX _ _ i _ _ _ h).mono j⟩;obtain⟨n,o⟩:=d;have l:=e.cells a _ f;cases n with
 | zero=>exact h.elim
 | succ n=>
  rw[de];exact xA _ _ i o w g (a*4) l
theorem IG(f:∀y∈b,aI y/\y.1≠0):∀y∈CC b,aI ⟨np b,y⟩:=by
 intro y k;obtain⟨m,h⟩:=dd k;obtain⟨e,g,i,rfl⟩:=Le b m y h;have j:=f e (aN g);obtain⟨n,o⟩:=e;cases n with
 | zero=>exact(j.2 rfl).elim
 | succ n=>
  intro p c;clear h k g f;generalize np b=d at*;obtain⟨a,rfl⟩:∃a,d=a+1:=⟨d-1,by simp only at i;omega⟩;have l:=nE a n (by simp only at i;omega) o;simp only at c;rw[l]at c;exact j.1 p c
theorem uE{s t:ap}(b:(s.toList==t.toList)=true):s=t:=by
 have a:s.toList=t.toList:=by simpa using b
 rw[cE,cE]at a;cases s;cases t;simp only at a;rw[Array.toList_inj.1 a]
theorem bL{x:Tm (n+1)}{y:Tm (m+1)}(c:aB (n+1) x (m+1) y=true):x.1=y.1/\aG (λa b=>aB n a m b) x.2.2 y.2.2=true:=by
 simp only[aB,aK,cF]at c;obtain⟨⟨⟨d,e⟩,f⟩,g⟩:=c;refine⟨?_,g⟩;have h:=uE (s:=x.1.2.2) (t:=y.1.2.2) (by simpa using f);exact fC d (fC e h)
theorem dh{x:Tm (n+1)}{y:Tm (m+1)}(c:x.1=y.1)(k:aG (λa b=>aB n a m b) x.2.2 y.2.2=true):aB (n+1) x (m+1) y=true:=by
 simp only[aB,c,k];simp
theorem qE{c β:Type}(f:c->β->Bool)(g:β->c->Bool):(p:List c)->(q:List β)->(∀a∈p,∀b,f a b=true->g b a=true)->aG f p q=true->aG g q p=true
 | [],[],_,_=>rfl
 | [],_::_,_,h=>by simp[aG]at h
 | _::_,[],_,h=>by simp[aG]at h
 | a::p,b::q,hf,h=>by
  simp only[aG,aK]at h ⊢;exact⟨hf a (by simp) b h.1,qE f g p q (λd e=>hf d (bR _ e)) h.2⟩
theorem dB:(n:Nat)->(x:Tm n)->(m:Nat)->(y:Tm m)->aB n x m y=true->aB m y n x=true
 | 0,_,_,_,h=>by simp[aB]at h
 | _+1,_,0,_,h=>by simp[aB]at h
 | n+1,x,m+1,y,h=>by
  obtain⟨c,d⟩:=bL h;exact dh c.symm (qE _ _ _ _ (λa _ b e=>dB n a m b e) d)
theorem oE{d β e:Type}(f:d->β->Bool)(g:β->e->Bool)(k:d->e->Bool):(p:List d)->(q:List β)->(r:List e)->(∀a∈p,∀b c,f a b=true->g b c=true->k a c=true)->aG f p q=true->aG g q r=true->aG k p r=true
 | [],[],[],_,_,_=>rfl
 | [],[],_::_,_,_,h=>by simp[aG]at h
 | [],_::_,_,_,h,_=>by simp[aG]at h
 | _::_,[],_,_,h,_=>by simp[aG]at h
 | _::_,_::_,[],_,_,h=>by simp[aG]at h
 | a::p,b::q,c::r,hf,h1,h2=>by
  simp only[aG,aK]at h1 h2 ⊢;exact⟨hf a (by simp) b c h1.1 h2.1,oE f g k p q r (λi j=>hf i (bR _ j)) h1.2 h2.2⟩
theorem bM:(n:Nat)->(x:Tm n)->(m:Nat)->(y:Tm m)->(l:Nat)->(d:Tm l)->aB n x m y=true->aB m y l d=true->aB n x l d=true
 | 0,_,_,_,_,_,h,_=>by simp[aB]at h
 | _+1,_,0,_,_,_,h,_=>by simp[aB]at h
 | _+1,_,_+1,_,0,_,_,h=>by simp[aB]at h
 | n+1,x,m+1,y,l+1,d,h,k=>by
  obtain⟨e,f⟩:=bL h;obtain⟨j,o⟩:=bL k;exact dh (e.trans j) (oE _ _ _ _ _ _ (λa _ b c g i=>bM n a m b l c g i) f o)
theorem je{b:Type}(f:b->b->Bool):(p:List b)->(∀a∈p,f a a=true)->aG f p p=true
 | [],_=>rfl
 | a::p,h=>by
  simp only[aG,aK];exact⟨h a (by simp),je f p λc d=>h c (bR _ d)⟩
theorem fH:(n:Nat)->(x:Tm n)->aI ⟨n,x⟩->aB n x n x=true
 | 0,_,h=>(dq h).elim
 | n+1,x,h=>dh rfl (je _ _ λy a=>fH n y (bf n x y h a))
theorem aT{x:Tm n}:aI ⟨n,x⟩ ↔ ch n x=true:=by
 rw[lN,cu];exact Iff.rfl
theorem Ml{x:Int×Int×ap}{a b:aw}{l d:Nat}:cJ (x,(a,l,c))=cJ (x,(b,l,d)):=rfl
theorem sO{c β:Type}(f:c->β->Bool)(g:c->Bool)(k:β->Bool):(p:List c)->(q:List β)->(∀a∈p,∀b,f a b=true->g a=k b)->aG f p q=true->p.all g=q.all k
 | [],[],_,_=>rfl
 | [],_::_,_,h=>by simp[aG]at h
 | _::_,[],_,h=>by simp[aG]at h
 | a::p,b::q,hf,h=>by
  simp only[aG,aK]at h;simp only[jn,hf a (by simp) b h.1,sO f g k p q (λd e=>hf d (bR _ e)) h.2]
theorem kG{c β d:Type}(f:c->β->Bool)(g:c->d)(k:β->d):(p:List c)->(q:List β)->(∀a∈p,∀b,f a b=true->g a=k b)->aG f p q=true->p.map g=q.map k
 | [],[],_,_=>rfl
 | [],_::_,_,h=>by simp[aG]at h
 | _::_,[],_,h=>by simp[aG]at h
 | a::p,b::q,hf,h=>by
  simp only[aG,aK]at h;simp only[aU,hf a (by simp) b h.1,kG f g k p q (λe i=>hf e (bR _ i)) h.2]
theorem uT{b:Type}(g:b->Int):(p:List b)->(i:Int)->p.foldl (λm y=>max m (g y)) i=(p.map g).foldl max i
 | [],_=>rfl
 | a::p,i=>by simp only[gD,aU];exact uT g p _
theorem cM:(n:Nat)->(x:Tm n)->(m:Nat)->(y:Tm m)->aB n x m y=true->aS n x=aS m y
 | 0,_,_,_,h=>by simp[aB]at h
 | _+1,_,0,_,h=>by simp[aB]at h
 | n+1,x,m+1,y,h=>by
  obtain⟨c,d⟩:=bL h;simp only[aS,c];rw[sO _ _ _ _ _ (λa _ b e=>cM n a m b e) d]
theorem jG:(n:Nat)->(x:Tm n)->(m:Nat)->(y:Tm m)->aB n x m y=true->ch n x=ch m y
 | 0,_,_,_,h=>by simp[aB]at h
 | _+1,_,0,_,h=>by simp[aB]at h
 | n+1,x,m+1,y,h=>by
  obtain⟨a,c⟩:=bL h;have e:cJ (bI n x)=cJ (bI m y):=by
   have g:=cP _ _ _ c;unfold bI;rw[a,g];exact Ml
  simp only[ch,e,a];rw[sO _ _ _ _ _ (λd _ b f=>jG n d m b f) c]
theorem lT:(n:Nat)->(x:Tm n)->(m:Nat)->(y:Tm m)->aB n x m y=true->sz n x=sz m y
 | 0,_,_,_,h=>by simp[aB]at h
 | _+1,_,0,_,h=>by simp[aB]at h
 | n+1,x,m+1,y,h=>by
  obtain⟨c,d⟩:=bL h;simp only[sz,c];rw[kG _ (λy=>1+sz n y) (λy=>1+sz m y) _ _ (λa _ b e=>by rw[lT n a m b e]) d]
theorem Cc:(n:Nat)->(x:Tm n)->(m:Nat)->(y:Tm m)->aB n x m y=true->fI n x=fI m y
 | 0,_,_,_,h=>by simp[aB]at h
 | _+1,_,0,_,h=>by simp[aB]at h
 | n+1,x,m+1,y,h=>by
  obtain⟨c,d⟩:=bL h;simp only[fI,c];rw[uT (λy=>fI n y),uT (λy=>fI m y),kG _ (λy=>fI n y) (λy=>fI m y) _ _ (λa _ b e=>Cc n a m b e) d]
theorem bV{x:Tm n}{y:Tm m}(a:aB n x m y=true):bE n x=bE m y:=by
 rw[<-gz,<-gz];unfold wX;rw[jG n x m y a,lT n x m y a,Cc n x m y a]
theorem kH{x:Tm n}{y:Tm m}(a:aB n x m y=true):b8 ⟨n,x⟩=b8 ⟨m,y⟩:=by
 cases n with
 | zero=>simp[aB]at a
 | succ n=>
  cases m with
  | zero=>simp[aB]at a
  | succ m=>
   have:=(bL a).1;simp only[b8,this]
theorem jF{c β:Type}(f:c->β->Bool):(p:List c)->(q:List β)->aG f p q=true->∀(i:Nat)(a:c)(b:β),p[i]?=some a->q[i]?=some b->f a b=true
 | [],_,_,i,a,b,ha,_=>by simp at ha
 | _::_,[],h,_,_,_,_,_=>by simp[aG]at h
 | a::p,b::q,h,0,a',b',ha,hb=>by
  simp only[aG,aK]at h;simp at ha hb;subst ha hb;exact h.1
 | a::p,b::q,h,i+1,a',b',ha,hb=>by
  simp only[aG,aK]at h;exact jF f p q h.2 i a' b' (by simpa using ha) (by simpa using hb)
theorem jd{b β:Type}(f:β->b->Bool)(g:b->β):(p:List b)->(∀a∈p,f (g a) a=true)->aG f (p.map g) p=true
 | [],_=>rfl
 | a::p,h=>by
  simp only[aU,aG,aK];exact⟨h a (by simp),jd f g p λc d=>h c (bR _ d)⟩
theorem fG:(N n:Nat)->n<=N->(x:Tm n)->aI ⟨n,x⟩->aB N (aY N n x) n x=true
 | _,0,_,_,h=>(dq h).elim
 | 0,n+1,h,_,_=>by omega
 | N+1,n+1,h,x,hr=>dh rfl (jd _ _ _ λy a=>fG N n (by omega) y (bf n x y hr a))
def gV(b c:Bool)(a:Int)(cl:Bool)(L:Nat):Int:=if b=false\/c=false then 1 else if a≠0 then a else if cl=false then 5 else if 20<=L then 2 else 0
theorem EJ(wp:BL)(a b:Int)(k u:Int)(s:ap)(h:aw)(j i:Nat)(v g:Bool)(d:Int)(cl:Bool)(L:Nat)(w:ag)(C:Int->Int->ap->aw->Nat->Nat->ag->ag->Prop)(N:ag->Prop)(av:L<=1000)(S:Hid (∀W,am 159 #[ab a] W λe w'=>e=.returned (.bool v)/\w'=W))(T:Hid (∀W,am 159 #[ab b] W λe w'=>e=.returned (.bool g)/\w'=W))(Z:Hid (∀W,ak w W->am 53 #[.agg #[ab k,ab u,af s,ae h j i]] W λe w'=>e=.returned (ab d)/\ak W w'))(aa:Hid (∀W,ak w W->am 54 #[.agg #[ab k,ab u,af s,ae h j i]] W λe w'=>e=.returned (.bool cl)/\ak W w'))(ad:Hid (∀W,ak w W->am 160 #[.pointer (some ⟨wp.b,wp.o,none⟩),ab a,ab b] W λe w'=>e=.returned (ab L)/\w'=W))(X:Hid (∀W,d=0->ak w W->am 56 #[.agg #[ab k,ab u,af s,ae h j i]] W λe w'=>∃m n t p r q,e=.returned (.agg #[ab m,ab n,af t,ae p r q])/\Hid (C m n t p r q W w')))(U:Hid (∀m n t p r q W w1,gV v g d cl L=0->C m n t p r q W w1->ak w W->am 161 #[.pointer (some ⟨wp.b,wp.o,none⟩),.agg #[ab a,ab b],.agg #[ab m,ab n,af t,ae p r q]] w1 λe w'=>e=.returned (.tuple #[])/\Hid (N w'))):am 121 #[.pointer (some ⟨wp.b,wp.o,none⟩),ab a,ab b,.agg #[ab k,ab u,af s,ae h j i]] w λe w'=>e=.returned (ab (gV v g d cl L))/\(gV v g d cl L≠0->ak w w')/\(gV v g d cl L=0->N w'):=by
 have Q:Hid (∃l f,l=w.alloc (.cells #[ab k,ab u,af s,ae h j i] 31)/\f=w.heap.size):=⟨_,_,rfl,rfl⟩;go_enter func121,ntmps121;go_wp2_with fail;obtain⟨l,f,B,M⟩:=Q.out;rw[<-B,<-M];have x:Hid (ak w l):=by
  rw[B];exact(aq _ _).alloc (ao _) _
 have P:Hid (l.heap[f]?=some (.cells #[ab k,ab u,af s,ae h j i] 31)/\f<l.heap.size):=by
  rw[B,M];exact⟨aF w _,by simp⟩
 have I:Hid (∀W,ak l W->W.cell? ⟨f,0,none⟩=some (ab k)/\W.cell? ⟨f,1,none⟩=some (ab u)/\W.cell? ⟨f,2,none⟩=some (af s)/\W.cell? ⟨f,3,none⟩=some (ae h j i)):=by
  intro W al;have c:=(al.block f P.2).trans P.1;exact⟨ah c 0,ah c 1,ah c 2,ah c 3⟩
 clear B M Q;refine(S l).mono ?_;rintro e w1 ⟨rfl,rfl⟩;cases v
 ·go_wp2_with fail
  go_ret
  have e:gV false g d cl L=1:=by simp[gV]
  rw[e];exact⟨rfl,λ_=>x,λc=>by cases c⟩
 ·go_wp2_with fail;refine(T _).mono ?_;rintro e ay ⟨rfl,rfl⟩;cases g
  ·go_wp2_with fail
   go_ret
   have e:gV true false d cl L=1:=by simp[gV]
   rw[e];exact⟨rfl,λ_=>x,λc=>by cases c⟩
  ·obtain⟨D,E,F,G⟩:=I.out _ (aq _ _);go_wp2_with fail;refine(Z _ x).mono ?_;rintro e az ⟨rfl,J⟩;have H:=au J;have A:=au (x.trans (J.mono x.size));clear J D E F G;by_cases z:d=0;rotate_left
   ·have ax:¬(0:Int)=d:=λe=>z e.symm;go_wp2_with fail
    go_ret
    have e:gV true true d cl L=d:=by simp[gV,z]
    rw[e];exact⟨rfl,λ_=>A,λc=>absurd c z⟩
   ·obtain⟨D,E,F,G⟩:=I.out _ H;have ar:=au z;subst z;go_wp2_with fail;refine(aa _ A).mono ?_;rintro e aA ⟨rfl,K⟩;have V:=au (H.trans (K.mono H.size));have y:=au (A.trans (K.mono A.size));clear K D E F G;cases cl
    ·go_wp2_with fail
     go_ret
     have e:gV true true 0 false L=5:=by simp[gV]
     rw[e];exact⟨rfl,λ_=>y,λc=>by cases c⟩
    ·go_wp2_with fail;refine(ad _ y).mono ?_;rintro e aB ⟨rfl,rfl⟩;by_cases R:20<=L
     ·have aj:(20:Int)<=(L:Int):=by omega
      go_wp2_with fail
      go_ret
      have e:gV true true 0 true L=2:=by simp[gV,R]
      rw[e];exact⟨rfl,λ_=>y,λc=>by cases c⟩
     ·have aj:¬(20:Int)<=(L:Int):=by omega
      have O:Hid (gV true true 0 true L=0):=(show gV true true 0 true L=0 by simp[gV,R]);obtain⟨D,E,F,G⟩:=I _ V;go_wp2_with fail;refine(X _ (by simp) y).mono ?_;rintro e an ⟨m,n,t,p,r,q,rfl,ai⟩;go_wp2_with fail;refine(U m n t p r q _ an O ai y).mono ?_;rintro e aC ⟨rfl,Y⟩;go_wp2_with fail
      go_ret
      rw[O.out];exact⟨rfl,λc=>absurd rfl c,λ_=>Y⟩
theorem EH{x:Tm n}(a:bE n x=0):aI ⟨n,x⟩:=by
 rw[aT];rw[<-gz]at a;unfold wX at a;split at a
 ·rename_i b;simpa using b
 ·cases a
variable {base n N:Nat} {wp:BL} {mo:Option Nat} {f:Int×Int->List (Tm (N+1))} {sl:Int×Int->av} {w:ag}
def MM(a:Int):Bool:=decide (1<=a) && decide (a<=99)
def nT(N:Nat)(a b:Int)(x:Tm (N+1))(L:Nat):Int:=gV (MM a) (MM b) (bE (N+1) x) (aS (N+1) x) L
def IW(base:Nat)(wp:BL)(mo:Option Nat)(n N:Nat)(f:Int×Int->List (Tm (N+1)))(sl:Int×Int->av)(k:Int×Int)(x:Tm (N+1))(w w':ag):Prop:=
 ∃a c d,aB (N+1) a (N+1) x=true/\ii base wp c (n+1) (N+1) (iN f k (f k++ [a])) d w'/\bB (r9 wp mo sl) w w'/\(∀b,r9 wp c d b->r9 wp mo sl b\/w.heap.size<=b)/\In w'.heap.size w' (N+1) a/\cr (λb=>w.heap.size<=b/\¬r9 wp c d b) (N+1) a
theorem KM(i:ii base wp mo n (N+1) f sl w){a b:Int}(p:I2 (a,b))(x:Tm (N+1))(m:In w.heap.size w (N+1) x)(D:(aC (N+1) x).length<=2097152)(H:n<999999)(G:(f (a,b)).length<=1000):am 121 #[.pointer (some ⟨wp.b,wp.o,none⟩),ab a,ab b,dw (N+1) x] w λe w'=>e=.returned (ab (nT N a b x (f (a,b)).length))/\(nT N a b x (f (a,b)).length≠0->ak w w')/\(nT N a b x (f (a,b)).length=0->IW base wp mo n N f sl (a,b) x w w'):=by
 refine EJ wp a b x.1.1 x.1.2.1 x.1.2.2 x.2.1.1 x.2.2.length x.2.1.2 (MM a) (MM b) (bE (N+1) x) (aS (N+1) x) (f (a,b)).length w
  (λu v B y A z g w'=>∃c:Tm (N+1),(u=c.1.1/\v=c.1.2.1/\B=c.1.2.2/\y=c.2.1.1/\A=c.2.2.length/\z=c.2.1.2)/\ak g w'/\In w'.heap.size w' (N+1) c/\cr (λM=>g.heap.size<=M) (N+1) c/\aB (N+1) c (N+1) x=true)
  (λw'=>IW base wp mo n N f sl (a,b) x w w') G (λg=>Fp a g) (λg=>Fp b g) (λg d=>?_) (λg d=>?_) (λg d=>?_) (λg F d=>?_) ?_
 ·exact dQ (N+1) x w.heap.size g (m.below d) d.size D
 ·exact iS (N+1) x w.heap.size g (m.below d) d.size
 ·exact IK (i.later d) p
 ·refine(ip (N+1) x w.heap.size g (m.below d) d.size (EH F)).mono ?_;rintro e w' ⟨c,rfl,I⟩;exact⟨c.1.1,c.1.2.1,c.1.2.2,c.2.1.1,c.2.2.length,c.2.1.2,rfl,⟨c,⟨rfl,rfl,rfl,rfl,rfl,rfl⟩,I⟩⟩
 ·rintro u v B y A z g P h ⟨c,⟨rfl,rfl,rfl,rfl,rfl,rfl⟩,E,q,r,J⟩ d;have l:ak w P:=d.trans (E.mono d.size);have C:(f (a,b)).length<1000:=by
   by_cases Q:20<=(f (a,b)).length
   ·exfalso;unfold gV at h;split at h
    ·cases h
    ·split at h
     ·contradiction
     ·split at h
      ·cases h
      ·first|cases h|(split at h<;>first|cases h|contradiction)
   ·omega
  refine(LJ (i.later l) p c H C).mono ?_;rintro e w' ⟨rfl,L,O,K,s,t⟩;refine⟨rfl,c,L,O,J,K,bB.trans (aO l _) s λ_ _ e=>e,λb j=>?_,?_,?_⟩
  ·rcases t b j with e|e
   ·exact ai e
   ·exact aj (aD l.size e)
  ·refine q.kee s (r.mono λb j k=>?_);have:=(i.lt b k).2;have:=d.size;omega
  ·refine(In.offB r q).mono λb j=>⟨aD d.size j.1,λk=>?_⟩;rcases t b k with e|e
   ·have:=(i.lt b e).2;have:=d.size;omega
   ·omega
theorem Ig(wp:BL)(mo:Option Nat)(a b:Int)(w:ag)(F:wp.b<w.heap.size)(y:Hid (w.cell? ⟨wp.b,wp.o,none⟩=some (.map mo)))(z:Hid (∀W,ak w W->(Instr.lookup 51 (.map mo) (.agg #[ab a,ab b]) false).run Tryz.prog W=.ok (ae none 0 0) W)):am 50 #[.pointer (some ⟨wp.b,wp.o,none⟩),ab a,ab b] w λe w'=>e=.returned (.tuple #[.agg #[ab 0,ab 0,af ⟨#[]⟩,ae none 0 0],ab 4])/\ak w w':=by
 have t:=y.out;have s:Hid (∃wr c d,wr=(w.alloc (.cells #[ab 0,ab 0,af ⟨#[]⟩,ae none 0 0] 31)).alloc (.cells #[ab a,ab b] 44)/\c=w.heap.size/\d=w.heap.size+1):=⟨_,_,_,rfl,rfl,rfl⟩;go_enter func50,ntmps50;go_wp2_with fail;obtain⟨wr,c,d,f,l,m⟩:=s.out;rw[<-f,<-m,<-l];have E:wr.heap.size=w.heap.size+2:=by rw[f];simp
 have HB:Hid (ak w wr):=by
  rw[f];exact((aq _ _).alloc (ao _) _).alloc (by simp) _
 have A:Hid (wr.heap[c]?=some (.cells #[ab 0,ab 0,af ⟨#[]⟩,ae none 0 0] 31)):=by
  rw[f,l];exact(((aq _ _).alloc (ao _) _).block w.heap.size (by simp)).trans (aF w _)
 have B:Hid (wr.heap[d]?=some (.cells #[ab a,ab b] 44)):=by
  rw[f,m];have C:=aF (w.alloc (.cells #[ab 0,ab 0,af ⟨#[]⟩,ae none 0 0] 31)) (.cells #[ab a,ab b] 44);have e:(w.alloc (.cells #[ab 0,ab 0,af ⟨#[]⟩,ae none 0 0] 31)).heap.size=w.heap.size+1:=by simp
  rwa [e]at C
 have k:Hid (c<wr.heap.size/\d<wr.heap.size/\wp.b<wr.heap.size/\w.heap.size<=c/\w.heap.size<=d/\wp.b<w.heap.size):=(show _/\_ by omega);have r:Hid (∀W,ak wr W->W.cell? ⟨wp.b,wp.o,none⟩=some (.map mo)/\W.cell? ⟨d,0,none⟩=some (ab a)/\W.cell? ⟨d,1,none⟩=some (ab b)):=by
  intro W j;have u:=(j.block d k.2.1).trans B;exact⟨((j.cell (p:=⟨wp.b,wp.o,none⟩) k.2.2.1).trans (HB.cell (p:=⟨wp.b,wp.o,none⟩) F)).trans t,ah u 0,ah u 1⟩
 have q:Hid (ak wr wr.drew):=(aq _ _).drew;have n:Hid (∀W,ak wr W->ak w W):=λW j=>HB.trans (j.mono HB.size);have O:=z _ (n _ q);obtain⟨P,Q,R⟩:=r.out wr (aq _ _);clear f l m s E t;go_region_held3 (λW=>W.cell? ⟨wp.b,wp.o,none⟩=some (.map mo)/\W.cell? ⟨d,0,none⟩=some (ab a)/\W.cell? ⟨d,1,none⟩=some (ab b)) (first|(go_keep;done)|exact r _ q) (fail);have g:=A.out;have G:wr.cell? ⟨c,0,none⟩=some (ab 0):=ah g 0;have H:wr.cell? ⟨c,1,none⟩=some (ab 0):=ah g 1;have I:wr.cell? ⟨c,2,none⟩=some (af ⟨#[]⟩):=ah g 2;have J:wr.cell? ⟨c,3,none⟩=some (ae none 0 0):=ah g 3;have h:∀x,wr.frozen? ⟨c,x,none⟩=false:=λx=>by simp[World.frozen?,g]
 have K:=h 0;have L:=h 1;have M:=h 2;have N:=h 3;clear h g;have i:=au k.2.2.2.1;go_wp2_with fail;refine az (v:=.tuple #[.agg #[ab 0,ab 0,af ⟨#[]⟩,ae none 0 0],ab 4]) (by simp[results,results50,go_sem,G,H,I,J]) rfl ⟨rfl,?_⟩;have D:=n _ (aq _ _);exact((((D.setCell i.out _).setCell i.out _).setCell i.out _).setCell i.out _).drew
theorem yn(wp:BL)(i g c m:Nat)(y0 y1:Int)(ys:ap)(ya:aw)(yl yc:Nat)(a b:Int)(w:ag)(G:ag->Prop)(R:ag->ag->Prop)(a3:wp.b<w.heap.size)(M:g<w.heap.size)(be:i<w.heap.size)(a0:wp.b≠i)(aZ:wp.b≠g)(aK:Hid (w.cell? ⟨wp.b,wp.o,none⟩=some (.map (some i))))(ar:Hid (∀W,ak w W->(Instr.lookup 51 (.map (some i)) (.agg #[ab a,ab b]) false).run Tryz.prog W=.ok (ae (some ⟨g,0,none⟩) (m+1) c) W))(aP:Hid (w.cell? ⟨g,0,none⟩=some (ab y0)/\w.cell? ⟨g,1,none⟩=some (ab y1)/\w.cell? ⟨g,2,none⟩=some (af ys)/\w.cell? ⟨g,3,none⟩=some (ae ya yl yc)))(aX:(m=0/\Hid (∀W,ak w W->∃w',(∀ty,(Builtin.delete_ #[51,44] ty #[.map (some i),.agg #[ab a,ab b]]).run Tryz.prog W=.ok (.tuple #[]) w')/\bB (λb=>b=i) W w'/\w'.heap.size=W.heap.size/\∀w2,Below w.heap.size w' w2->G w2))\/(1<=m/\m<=1000/\Hid (∀W,ak w W->am 84 #[ae (some ⟨g,0,none⟩) (m+1) c,ab 0,ab 1] W λe w'=>e=.returned (ae (some ⟨g,0,none⟩) m c)/\Hid (W.grownBy w' (some g)/\R W w'))/\Hid (∀W H,R W H->ak w W->W.grownBy H (some g)->∃w',(Instr.mapUpdate 51 (.map (some i)) (.agg #[ab a,ab b]) (ae (some ⟨g,0,none⟩) m c)).run Tryz.prog H=.ok () w'/\bB (λb=>b=i) H w'/\∀w2,Below w.heap.size w' w2->G w2))):am 50 #[.pointer (some ⟨wp.b,wp.o,none⟩),ab a,ab b] w λe w'=>e=.returned (.tuple #[.agg #[ab y0,ab y1,af ys,ae ya yl yc],ab 0])/\G w':=by
 have aD:=aK.out;have aB:Hid (∃wr f h,wr=(w.alloc (.cells #[ab 0,ab 0,af ⟨#[]⟩,ae none 0 0] 31)).alloc (.cells #[ab a,ab b] 44)/\f=w.heap.size/\h=w.heap.size+1):=⟨_,_,_,rfl,rfl,rfl⟩;go_enter func50,ntmps50;go_wp2_with fail;obtain⟨wr,f,h,u,S,T⟩:=aB.out;rw[<-u,<-T,<-S];have a2:wr.heap.size=w.heap.size+2:=by rw[u];simp
 have HB:Hid (ak w wr):=by
  rw[u];exact((aq _ _).alloc (ao _) _).alloc (by simp) _
 have aN:Hid (wr.heap[f]?=some (.cells #[ab 0,ab 0,af ⟨#[]⟩,ae none 0 0] 31)):=by
  rw[u,S];exact(((aq _ _).alloc (ao _) _).block w.heap.size (by simp)).trans (aF w _)
 have ay:Hid (wr.heap[h]?=some (.cells #[ab a,ab b] 44)):=by
  rw[u,T];have J:=aF (w.alloc (.cells #[ab 0,ab 0,af ⟨#[]⟩,ae none 0 0] 31)) (.cells #[ab a,ab b] 44);have e:(w.alloc (.cells #[ab 0,ab 0,af ⟨#[]⟩,ae none 0 0] 31)).heap.size=w.heap.size+1:=by simp
  rwa [e]at J
 have x:Hid (f<wr.heap.size/\h<wr.heap.size/\wp.b<wr.heap.size/\w.heap.size<=f/\w.heap.size<=h/\wp.b<w.heap.size):=(show _/\_ by omega);have Q:Hid (∀W,ak wr W->W.cell? ⟨wp.b,wp.o,none⟩=some (.map (some i))/\W.cell? ⟨h,0,none⟩=some (ab a)/\W.cell? ⟨h,1,none⟩=some (ab b)):=by
  intro W s;have C:=(s.block h x.2.1).trans ay;exact⟨((s.cell (p:=⟨wp.b,wp.o,none⟩) x.2.2.1).trans (HB.cell (p:=⟨wp.b,wp.o,none⟩) a3)).trans aD,ah C 0,ah C 1⟩
 have an:Hid (ak wr wr.drew):=(aq _ _).drew;have al:Hid (∀W,ak wr W->ak w W):=λW s=>HB.trans (s.mono HB.size);have aY:=ar _ (al _ an);obtain⟨aH,aI,aJ⟩:=Q.out wr (aq _ _);clear u S T aB a2 aD;go_region_held3 (λW=>W.cell? ⟨wp.b,wp.o,none⟩=some (.map (some i))/\W.cell? ⟨h,0,none⟩=some (ab a)/\W.cell? ⟨h,1,none⟩=some (ab b)) (first|(go_keep;done)|exact Q _ an) (fail);obtain⟨U,V,X,Y⟩:=aP;have B:=ax HB;replace U:=(B _ _ M).trans U;replace V:=(B _ _ M).trans V;replace X:=(B _ _ M).trans X;replace Y:=(B _ _ M).trans Y;clear B;rcases aX with⟨rfl,O⟩|⟨bc,bd,O,aO⟩
 case' inl=>simp only[de]at ar
 case' inr=>
  have bi:¬((m:Int)+1=0):=by omega
  have bj:¬((m:Int)+1=1):=by omega
  have bk:(0:Int)<(m:Int)+1:=by omega
 all_goals
  have aC:Hid (∃j q,(j=(wr.alloc (.cells #[ab y0,ab y1,af ys,ae ya yl yc] 31)).drew/\q=wr.heap.size)/\ak wr j/\j.heap[q]?=some (.cells #[ab y0,ab y1,af ys,ae ya yl yc] 31)/\q<j.heap.size/\wr.heap.size<=q):=⟨_,_,⟨rfl,rfl⟩,(show Below _ _ _ by go_grown),aF wr _,by simp[World.drew],ao _⟩;go_wp2_with fail;obtain⟨j,q,⟨aG,aE⟩,n⟩:=aC.out;rw[<-aG,<-aE];replace n:=au n;clear aG aE aC aH aI aJ aY U V X Y;have aj:=au (al _ n.1);have y:Hid (∀W:ag,(∀b,b<j.heap.size->b≠i->b≠g->W.heap[b]?=j.heap[b]?)->(W.cell? ⟨wp.b,wp.o,none⟩=some (.map (some i))/\W.cell? ⟨h,0,none⟩=some (ab a)/\W.cell? ⟨h,1,none⟩=some (ab b))/\(W.cell? ⟨q,0,none⟩=some (ab y0)/\W.cell? ⟨q,1,none⟩=some (ab y1)/\W.cell? ⟨q,2,none⟩=some (af ys)/\W.cell? ⟨q,3,none⟩=some (ae ya yl yc))/\(W.heap[f]?=some (.cells #[ab 0,ab 0,af ⟨#[]⟩,ae none 0 0] 31))):=by
   intro W s;obtain⟨a4,a5,bl,bm,bn,bo⟩:=x.out;have bg:=n.1.size;have bf:=n.2.2.2;have C:=(s h (by omega) (by omega) (by omega)).trans ((n.1.block h a5).trans ay);have aQ:=(s f (by omega) (by omega) (by omega)).trans ((n.1.block f a4).trans aN);have I:=(s q n.2.2.1 (by omega) (by omega)).trans n.2.1;have aR:=s wp.b (by omega) a0 aZ;refine⟨⟨?_,ah C 0,ah C 1⟩,⟨ah I 0,ah I 1,ah I 2,ah I 3⟩,aQ⟩;have J:=(Q j n.1).1;simp only[World.cell?,aR]at J ⊢;exact J
  have aL:Hid (ak j j.drew):=(aq _ _).drew;have N:=au (aj.trans (aL.mono aj.size));obtain⟨⟨aH,aI,aJ⟩,_,_⟩:=y.out j (λ_ _ _ _=>rfl);have av:=au (y j.drew (λ_ _ _ _=>rfl)).1
 ·go_region_held3 (λW=>W.cell? ⟨wp.b,wp.o,none⟩=some (.map (some i))/\W.cell? ⟨h,0,none⟩=some (ab a)/\W.cell? ⟨h,1,none⟩=some (ab b)) (first|(go_keep;done)|exact av|exact aM.1|exact z.1)
    ((first|(go_at_call 84;refine(O _ N).mono ?_;rintro e ba ⟨rfl,A⟩;obtain⟨d,bh,E,D⟩:=aO _ _ A.2 N A.1;have aM:=au (y ba (λb t K L=>A.1.block b t (λe=>L (aA e))));have z:=au (y d (λb t K L=>(E.block b (aW t A.1.size) K).trans (A.1.block b t (λe=>L (aA e)))));have P:=au D;clear E D)))
  obtain⟨_,⟨a6,a7,a8,a9⟩,k⟩:=z.out;have Z:d.cell? ⟨f,0,none⟩=some (ab 0):=ah k 0;have aa:d.cell? ⟨f,1,none⟩=some (ab 0):=ah k 1;have ad:d.cell? ⟨f,2,none⟩=some (af ⟨#[]⟩):=ah k 2;have ai:d.cell? ⟨f,3,none⟩=some (ae none 0 0):=ah k 3;have l:∀F,d.frozen? ⟨f,F,none⟩=false:=λF=>by simp[World.frozen?,k]
  have aS:=l 0;have aT:=l 1;have aU:=l 2;have aV:=l 3;have r:=au x.2.2.2.1;clear l k;go_wp2_with fail;refine az (v:=.tuple #[.agg #[ab y0,ab y1,af ys,ae ya yl yc],ab 0]) (by simp[results,results50,go_sem,Z,aa,ad,ai]) rfl ⟨rfl,?_⟩;exact P.out _ (((((aq w.heap.size d).setCell r.out _).setCell r.out _).setCell r.out _).setCell r.out _)
 ·obtain⟨d,bb,E,a1,D⟩:∃d,(∀ty,(Builtin.delete_ #[51,44] ty #[.map (some i),.agg #[ab a,ab b]]).run Tryz.prog j.drew=.ok (.tuple #[]) d)/\bB (λb=>b=i) j.drew d/\d.heap.size=j.drew.heap.size/\∀w2,Below w.heap.size d w2->G w2:=O _ N;have z:=au (y d (λb t K L=>E.block b t K));have P:=au D;clear E a1 D;go_region_held3 (λW=>W.cell? ⟨wp.b,wp.o,none⟩=some (.map (some i))/\W.cell? ⟨h,0,none⟩=some (ab a)/\W.cell? ⟨h,1,none⟩=some (ab b)) (first|(go_keep;done)|exact av|exact z.1) (fail);obtain⟨_,⟨a6,a7,a8,a9⟩,k⟩:=z;have Z:d.cell? ⟨f,0,none⟩=some (ab 0):=ah k 0;have aa:d.cell? ⟨f,1,none⟩=some (ab 0):=ah k 1;have ad:d.cell? ⟨f,2,none⟩=some (af ⟨#[]⟩):=ah k 2;have ai:d.cell? ⟨f,3,none⟩=some (ae none 0 0):=ah k 3;have l:∀F,d.frozen? ⟨f,F,none⟩=false:=λF=>by simp[World.frozen?,k]
  have aS:=l 0;have aT:=l 1;have aU:=l 2;have aV:=l 3;have r:=au x.2.2.2.1;clear l k;go_wp2_with fail;refine az (v:=.tuple #[.agg #[ab y0,ab y1,af ys,ae ya yl yc],ab 0]) (by simp[results,results50,go_sem,Z,aa,ad,ai]) rfl ⟨rfl,?_⟩;exact P.out _ (((((aq w.heap.size d).setCell r.out _).setCell r.out _).setCell r.out _).setCell r.out _)
end Go.Proofs.YtmmahddlcldmiaaGreat
