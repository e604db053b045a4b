/- Proved here: plain facts and contracts. No condition but what each names. -/
import Derived.Test.YtmmahddlcldmiaaGreatJ07
import Derived.Deep.DrawnRows
namespace Go.Proofs.YtmmahddlcldmiaaGreat
open Go.RowKit Go.Proofs.Tryz
open Go.RowKit Go.Maps
set_option maxHeartbeats 2000000
set_option maxRecDepth 100000
def fD:(n:Nat)->Tm n->Int
 | 0,_=>0
 | n+1,x=>if x.1.1=4 then 1+x.2.2.foldl (λm y=>max m (fD n y)) 0 else 0
def sZ(n:Nat)(p:List (Tm n))(k:Nat):Int:=(p.take k).foldl (λm y=>max m (fD n y)) 0
theorem C7(n:Nat)(p:List (Tm n))(k:Nat)(x:Tm n)(b:p[k]?=some x):sZ n p (k+1)=max (sZ n p k) (fD n x):=by
 obtain⟨c,a⟩:=aS.1 b;unfold sZ;rw[px c,a,jj];rfl
theorem qm{n:Nat}(N:Int):(l:List (Tm n))->(m:Int)->0<=m->m<=N->(∀y∈l,0<=fD n y/\fD n y<=N)->0<=l.foldl (λm y=>max m (fD n y)) m/\l.foldl (λm y=>max m (fD n y)) m<=N
 | [],_,h0,h1,_=>⟨h0,h1⟩
 | y::l,m,h0,h1,h=>by
  have c:=h y (by simp);exact qm N l (max m (fD n y)) (by omega) (by omega) (λb a=>h b (by simp[a]))
theorem kj{n:Nat}(l:List (Tm n))(y:Tm n)(c:y∈l):(ay n y).length<=(l.flatMap λy=>ay n y).length:=by
 obtain⟨a,d⟩:=cW c;have b:=FA (λy=>ay n y) l (a+1);rw[Hz _ l a y d,bm]at b;omega
theorem fW:(n:Nat)->(x:Tm n)->0<=fD n x/\fD n x<=(ay n x).length
 | 0,_=>by simp[fD]
 | n+1,x=>by
  have e:=qm ((x.2.2.flatMap λy=>ay n y).length:Int) x.2.2 0 (by omega) (by omega) (λy b=>by
   have c:=fW n y;have d:=kj x.2.2 y b
   omega)
  simp only[fD,ay,bi];by_cases a:x.1.1=4
  ·rw[if_pos a];omega
  ·rw[if_neg a];omega
theorem AT(n:Nat)(p:List (Tm n))(k:Nat):0<=sZ n p k/\sZ n p k<=(p.flatMap λy=>ay n y).length:=
 qm _ (p.take k) 0 (by omega) (by omega) (λy a=>by
  have b:=fW n y;have c:=kj p y (List.mem_of_mem_take a)
  omega)
def OT(n:Nat):Prop:=∀(x:Tm n)(B:Nat)(w:World),In B w n x->B<=w.heap.size->(ay n x).length<=2097152->
 ak 87 #[dq n x] w λe w'=>e=.returned (ab (fD n x))/\aj w w'
theorem C8(b d:Int)(s:ByteArray)(a:Option Addr)(len pc:Nat)(w:World)(c:¬b=4):ak 87 #[.agg #[ab b,ab d,af s,ae a len pc]] w λe w'=>e=.returned (ab 0)/\aj w w':=by
 have f:(b !=4)=true:=by simpa using c
 clear c;go_enter func87,ntmps87;go_wp2_with fail
 go_ret
 exact⟨rfl,(ao _ _).alloc (am _) _⟩
theorem Gd(n:Nat)(ih:OT n)(P:Int)(s:ByteArray)(a:Option Addr)(pc len:Nat)(p:List (Tm n))(E:Hid (p.length=len))(B:Nat)(w:World)(h:Hid (p=[]\/∃b o,a=some ⟨b,o,none⟩/\b<B/\∀(i:Nat)(y:Tm n),p[i]?=some y->dC w b (o+i*4) n y/\In B w n y))(T:len<=9223372036854775807)(u:B<=w.heap.size)(O:Hid (1+(p.flatMap λy=>ay n y).length<=2097152)):ak 87 #[.agg #[ab 4,ab P,af s,ae a len pc]] w λe w'=> e=.returned (ab (1+p.foldl (λm y=>max m (fD n y)) 0))/\aj w w':=by
 go_enter func87,ntmps87;go_wp2_with fail;go_loopw [3,12] (λt i wr=>∃k:Nat,∃d:Int,k<=len/\i=ab k/\t=ab d/\Hid (d=sZ n p k)/\aj w wr) (λ_ i _=>len-(intOf i).toNat)
 case atStart=>exact⟨0,0,by omega,rfl,rfl,by simp[Hid,sZ],(ao _ _).alloc (am _) _⟩
 case round=>
  obtain⟨k,d,Q,rfl,rfl,v,f⟩:=hrel;have r:=AT n p k;rw[<-v.out]at r;have K:=O.out;have V:0<=d:=r.1;have W:d<=2097152:=by omega
  clear r;by_cases M:k<len
  ·obtain⟨c,j⟩:∃c,p[k]?=some c:=⟨p[k]'(by rw[E.out];exact M),aI _⟩;have I:=ap (C7 n p k c j);have J:=kj p c (aJ j);have F:(ay n c).length<=2097152:=by omega
   clear J K;rcases h.out with h|⟨U,po,rfl,N,h⟩
   ·subst h;simp at j
   obtain⟨l,q⟩:=h k c j;replace l:=l.below (f.mono u) N;replace q:=q.below (f.mono u);clear h j;cases n with
   | zero=>exact l.elim
   | succ n=>
   obtain⟨X,Y,Z,aa⟩:=l;have A:B<=wr.heap.size:=az u f.size
   have G:Hid (∀g,aj wr g->ak 87 #[.agg #[ab c.1.1,ab c.1.2.1,af c.1.2.2,ae c.2.1.1 c.2.2.length c.2.1.2]] g λe w'=>e=.returned (ab (fD (n+1) c))/\aj g w'):=
    λg z=>ih c B g (q.below (z.mono A)) (az A z.size) F
   clear ih q F;generalize c.2.2.length=ad at*;generalize fD (n+1) c=x at*;have R:(0:Int)<=(k:Int):=by omega
   have S:(k:Int)<(len:Int):=by omega
   go_wp2_with fail;refine(G _ ((ao _ _).alloc (am _) _)).mono ?_;rintro e g ⟨rfl,C⟩;have L:aj w g:=(f.trans (((ao _ _).alloc (am _) _).mono f.size)).trans (C.mono (by have:=f.size;simp;omega));clear C;have D:max d x=if d<x then x else d:=by split<;>omega
   have H:=ap D;clear D;go_wp2_with fail;go_roundw
   case rel=>exact⟨k+1,_,by omega,by go_num,rfl,by simp only[Hid];rw[I.out,<-v.out,H.out],L⟩
   case measure=>simp[intOf];omega
  ·go_wp2_with fail
   go_ret
   refine⟨jp ?_,f⟩;rw[v.out];unfold sZ;rw[bA (by rw[E.out];omega)]
theorem Gc(n:Nat):OT n:=by
 induction n with
 | zero=>intro o i b g;exact g.elim
 | succ n ih=>
  intro o i b g q m;obtain⟨⟨k,e,d⟩,⟨c,pc⟩,a⟩:=o;obtain⟨⟨_,_,_,s,l⟩,j⟩:=g;simp only at s l j;unfold maxLen at l;have r:(ay (n+1) ((k,e,d),(c,pc),a)).length=1+(a.flatMap λh=>ay n h).length:=by simp only[ay,bi];omega
  rw[r]at m;show ak 87 #[.agg #[ab k,ab e,af d,ae c a.length pc]] b λp u=>p=.returned (ab (if k=4 then 1+a.foldl (λt h=>max t (fD n h)) 0 else 0))/\aj b u;by_cases f:k=4
  ·subst f;exact Gd n ih e d c pc a.length a rfl i b j (by omega) q m
  ·rw[if_neg f];exact C8 k e d c a.length pc b f
def pU(n:Nat)(p:List (Tm n))(k:Nat):Int:=1+p.length+((p.take k).map λy=>sz n y).sum
theorem Ew(n:Nat)(p:List (Tm n))(k:Nat)(x:Tm n)(b:p[k]?=some x):pU n p (k+1)=pU n p k+sz n x:=by
 obtain⟨c,a⟩:=aS.1 b;unfold pU;rw[px c,a];simp;omega
theorem Hy(n:Nat)(l:List (Tm n)):(l.map λy=>1+sz n y).sum=l.length+(l.map λy=>sz n y).sum:=by
 induction l with
 | nil=>simp
 | cons y l ih=>simp only[aN,bI,bi,ih];omega
theorem Io(n:Nat)(p:List (Tm n))(k:Nat)(a:p.length<=k):pU n p k=1+(p.map λy=>1+sz n y).sum:=by
 unfold pU;rw[bA a,Hy];omega
theorem xu(n:Nat)(p:List (Tm n)):p.length<=(p.flatMap λy=>ay n y).length:=by
 induction p with
 | nil=>simp
 | cons y l ih=>
  have:1<=(ay n y).length:=by cases n<;>simp[ay]
  simp only[bF,bm,bi];omega
theorem Ct(n:Nat)(p:List (Tm n))(k:Nat):0<=pU n p k/\pU n p k<=3*(1+(p.flatMap λy=>ay n y).length:Int):=by
 have b:=xu n p;have a:=FA (λy=>ay n y) p k;have key:∀l:List (Tm n),0<=(l.map λy=>sz n y).sum/\(l.map λy=>sz n y).sum<=2*((l.flatMap λy=>ay n y).length:Int):=by
  intro l
  induction l with
  | nil=>exact⟨by simp,by simp⟩
  | cons y l ih=>
   have c:=eX n y;simp only[aN,bI,bF,bm];exact⟨by omega,by omega⟩
 have k:=key (p.take k);unfold pU;exact⟨by omega,by omega⟩
def P0(n:Nat):Prop:=∀(x:Tm n)(B:Nat)(w:World),In B w n x->B<=w.heap.size->(ay n x).length<=2097152->
 ak 88 #[dq n x] w λe w'=>e=.returned (ab (sz n x))/\aj w w'
theorem Eu(b d:Int)(s:ByteArray)(a:Option Addr)(len pc:Nat)(w:World)(c:¬b=4):ak 88 #[.agg #[ab b,ab d,af s,ae a len pc]] w λe w'=>e=.returned (ab 0)/\aj w w':=by
 have f:(b !=4)=true:=by simpa using c
 clear c;go_enter func88,ntmps88;go_wp2_with fail
 go_ret
 exact⟨rfl,(ao _ _).alloc (am _) _⟩
theorem Im(n:Nat)(ih:P0 n)(M:Int)(s:ByteArray)(a:Option Addr)(pc len:Nat)(p:List (Tm n))(l:Hid (p.length=len))(B:Nat)(w:World)(g:Hid (p=[]\/∃b o,a=some ⟨b,o,none⟩/\b<B/\∀(i:Nat)(y:Tm n),p[i]?=some y->dC w b (o+i*4) n y/\In B w n y))(v:B<=w.heap.size)(D:Hid (1+(p.flatMap λy=>ay n y).length<=2097152)):ak 88 #[.agg #[ab 4,ab M,af s,ae a len pc]] w λe w'=> e=.returned (ab (1+(p.map λy=>1+sz n y).sum))/\aj w w':=by
 have S:len<=2097152:=by have u:=xu n p;have O:=D.out;rw[<-l.out];omega
 go_enter func88,ntmps88;go_wp2_with fail;go_loopw [3,16] (λt i wr=>∃k:Nat,∃h:Int,k<=len/\i=ab k/\t=ab h/\Hid (h=pU n p k)/\aj w wr) (λ_ i _=>len-(intOf i).toNat)
 case atStart=>exact⟨0,1+len,by omega,rfl,rfl,by simp only[Hid,pU];rw[l.out];simp,(ao _ _).alloc (am _) _⟩
 case round=>
  obtain⟨k,h,P,rfl,rfl,x,d⟩:=hrel;have r:=Ct n p k;rw[<-x.out]at r;have I:=D.out;have U:0<=h:=r.1;have V:h<=6291456:=by omega
  clear r;by_cases K:k<len
  ·obtain⟨c,j⟩:∃c,p[k]?=some c:=⟨p[k]'(by rw[l.out];exact K),aI _⟩;have G:=ap (Ew n p k c j);have H:=kj p c (aJ j);have E:(ay n c).length<=2097152:=by omega
   have z:=eX n c;have ad:0<=sz n c:=z.1;have ag:sz n c<=4194304:=by omega
   clear H I z;rcases g.out with g|⟨T,po,rfl,L,g⟩
   ·subst g;simp at j
   obtain⟨m,q⟩:=g k c j;replace m:=m.below (d.mono v) L;replace q:=q.below (d.mono v);clear g j;cases n with
   | zero=>exact m.elim
   | succ n=>
   obtain⟨W,X,Y,Z⟩:=m;have A:B<=wr.heap.size:=az v d.size
   have F:Hid (∀f,aj wr f->ak 88 #[.agg #[ab c.1.1,ab c.1.2.1,af c.1.2.2,ae c.2.1.1 c.2.2.length c.2.1.2]] f λe w'=>e=.returned (ab (sz (n+1) c))/\aj f w'):=
    λf u=>ih c B f (q.below (u.mono A)) (az A u.size) E
   clear ih q E;generalize c.2.2.length=aa at*;generalize sz (n+1) c=N at*;have Q:(0:Int)<=(k:Int):=by omega
   have R:(k:Int)<(len:Int):=by omega
   go_wp2_with fail;refine(F _ ((ao _ _).alloc (am _) _)).mono ?_;rintro e f ⟨rfl,C⟩;have J:aj w f:=(d.trans (((ao _ _).alloc (am _) _).mono d.size)).trans (C.mono (by have:=d.size;simp;omega));clear C;go_wp2_with fail;go_roundw
   case rel=>exact⟨k+1,h+N,by omega,by go_num,by go_num,by simp only[Hid];rw[G.out,<-x.out],J⟩
   case measure=>simp[intOf];omega
  ·go_wp2_with fail
   go_ret
   refine⟨jp ?_,d⟩;rw[x.out,Io n p k (by rw[l.out];omega)]
theorem yn(n:Nat):P0 n:=by
 induction n with
 | zero=>intro m i b g;exact g.elim
 | succ n ih=>
  intro m i b g p l;obtain⟨⟨k,e,d⟩,⟨c,pc⟩,a⟩:=m;obtain⟨⟨_,_,_,s,r⟩,j⟩:=g;simp only at s r j;have q:(ay (n+1) ((k,e,d),(c,pc),a)).length=1+(a.flatMap λh=>ay n h).length:=by simp only[ay,bi];omega
  rw[q]at l;show ak 88 #[.agg #[ab k,ab e,af d,ae c a.length pc]] b λo t=>o=.returned (ab (if k=4 then 1+(a.map λh=>1+sz n h).sum else 0))/\aj b t;by_cases f:k=4
  ·subst f;exact Im n ih e d c pc a.length a rfl i b j p l
  ·rw[if_neg f];exact Eu k e d c a.length pc b f
theorem Cp(w:World)(k u:Int)(s:ByteArray)(a:Option Addr)(l c:Nat)(i:Bool)(d m:Int)(D:Hid (∀w1,aj w w1->ak 86 #[.agg #[ab k,ab u,af s,ae a l c]] w1 λe w'=>e=.returned (.bool i)/\aj w1 w'))(C:Hid (∀w1,aj w w1->ak 87 #[.agg #[ab k,ab u,af s,ae a l c]] w1 λe w'=>e=.returned (ab d)/\aj w1 w'))(E:Hid (∀w1,aj w w1->ak 88 #[.agg #[ab k,ab u,af s,ae a l c]] w1 λe w'=>e=.returned (ab m)/\aj w1 w')):ak 53 #[.agg #[ab k,ab u,af s,ae a l c]] w λe w'=>e=.returned (ab (if i then if 12<d\/200<m then 2 else 0 else 5))/\aj w w':=by
 generalize A:(if i then if 12<d\/200<m then (2:Int)else 0 else 5)=I;have h:=ap A;clear A;go_enter func53,ntmps53;go_wp2_with fail;refine(D _ ((ao _ _).alloc (am _) _)).mono ?_;rintro e w1 ⟨rfl,j⟩;have f:Hid (aj w w1/\w.heap.size+1<=w1.heap.size):=⟨((ao _ _).alloc (am _) _).trans (j.mono (by simp)),by have:=j.size;simpa using this⟩;have b:=aq j;simp only[iB]at b;have r:=(b w.heap.size 0 (by omega)).trans (by simp[go_sem]:_=some (Value.int .i64 k));have t:=(b w.heap.size 1 (by omega)).trans (by simp[go_sem]:_=some (Value.int .i64 u));have v:=(b w.heap.size 2 (by omega)).trans (by simp[go_sem]:_=some (Value.string s));have x:=(b w.heap.size 3 (by omega)).trans (by simp[go_sem]:_=some (Value.slice a l c));clear b j;cases i with
 | false=>
  go_wp2_with fail
  go_ret
  exact⟨jp (by rw[<-h.out];rfl),f.1⟩
 | true=>
  go_wp2_with fail;refine(C _ f.1).mono ?_;rintro e G ⟨rfl,p⟩;have g:Hid (aj w G):=f.1.trans (p.mono f.1.size);have b:=aq p;have F:=f.2;replace r:=(b w.heap.size 0 (by omega)).trans r;replace t:=(b w.heap.size 1 (by omega)).trans t;replace v:=(b w.heap.size 2 (by omega)).trans v;replace x:=(b w.heap.size 3 (by omega)).trans x;clear b p F;by_cases y:12<d
  ·have n:=ap y;go_wp2_with fail
   go_ret
   exact⟨jp (by rw[<-h.out,if_pos trivial,if_pos (ah n.out)]),g⟩
  ·have n:=ap y;go_wp2_with fail;refine(E _ g).mono ?_;rintro e H ⟨rfl,z⟩;have q:Hid (aj w H):=g.trans (z.mono g.size);clear z;by_cases B:200<m
   ·have o:=ap B;go_wp2_with fail
    go_ret
    exact⟨jp (by rw[<-h.out,if_pos trivial,if_pos (ai o.out)]),q⟩
   ·have o:=ap B;go_wp2_with fail
    go_ret
    exact⟨jp (by rw[<-h.out,if_pos trivial,if_neg (by have:=n.out;have:=o.out;omega)]),q⟩
def wS(n:Nat)(x:Tm n):Int:=if bZ n x then if 12<fD n x\/200<sz n x then 2 else 0 else 5
theorem Co(n:Nat)(x:Tm n)(B:Nat)(w:World)(d:In B w n x)(b:B<=w.heap.size)(f:(ay n x).length<=2097152):ak 53 #[dq n x] w λe w'=>e=.returned (ab (wS n x))/\aj w w':=by
 cases n with
 | zero=>exact d.elim
 | succ n=>
 exact Cp w x.1.1 x.1.2.1 x.1.2.2 x.2.1.1 x.2.2.length x.2.1.2 (bZ (n+1) x) (fD (n+1) x) (sz (n+1) x)
  (λc a=>Df (n+1) x B c (d.below (a.mono b)) (az b a.size))
  (λc a=>Gc (n+1) x B c (d.below (a.mono b)) (az b a.size) f)
  (λc a=>yn (n+1) x B c (d.below (a.mono b)) (az b a.size) f)
theorem lI:(n:Nat)->(x:Tm n)->bZ n x=(ay n x).all cE
 | 0,_=>by simp[bZ,ay,cE]
 | n+1,x=>by
  have e:(ay (n+1) x).all cE=(cE (bD n x) && (x.2.2.flatMap λy=>ay n y).all cE):=rfl;rw[e];simp only[bZ];cases hg:cE (bD n x)
  ·rfl
  ·rw[eE,eE];by_cases b:x.1.1=4
   ·rw[b];have key:∀l:List (Tm n),(l.all λy=>bZ n y)=(l.flatMap λy=>ay n y).all cE:=by
     intro l
     induction l with
     | nil=>rfl
     | cons y l ih=>simp only[ji,bF,kH,ih,lI n y]
    rw[key];simp
   ·have c:x.2.2=[]:=by
      unfold cE at hg;simp only[aG,iv,cv]at hg;rcases hg.2 with a|a
      ·exact(b a).elim
      ·have:¬(0:Int)<(x.2.2.length:Int):=by simpa [bD]using a
       exact bE (by omega)
    rw[c];simp
def nM:List Nd->List Int->Int->Int
 | x::l,d::ds,m=>nM l ds (ns x d m)
 | _,_,m=>m
theorem AH(g:Int):(l:List Nd)->(b:List Int)->(m:Int)->l.length=b.length->C0 g l b m=if l.all cE then (if 12<nM l b m\/200<g then 2 else 0)else 5
 | [],_,_,_=>rfl
 | x::l,[],_,a=>by simp at a
 | x::l,d::b,m,a=>by
  have ih:=AH g l b (ns x d m) (by simpa using a);simp only[C0,nM];by_cases f:cE x=true
  ·have e:(x::l).all cE=l.all cE:=by simp[f]
   rw[if_pos f,ih];by_cases c:l.all cE=true
   ·rw[if_pos c,if_pos (e.trans c)];rfl
   ·rw[if_neg c,if_neg (λa=>c (e.symm.trans a))]
  ·rw[if_neg f,if_neg (λa=>f (ci.1 a x (by simp)))]
theorem rj:(l r:List Nd)->(a es:List Int)->(m:Int)->l.length=a.length->nM (l++r) (a++es) m=nM r es (nM l a m)
 | [],_,[],_,_,_=>rfl
 | [],_,_::_,_,_,h=>by simp at h
 | _::_,_,[],_,_,h=>by simp at h
 | x::l,r,d::a,es,m,h=>by
  simp only[eG,nM];exact rj l r a es _ (by simpa using h)
theorem A2{n:Nat}(c:Int):(p:List (Tm n))->(m e:Int)->p.foldl (λm y=>max m (c+fD n y)) (max m (c+e))=max m (c+p.foldl (λm y=>max m (fD n y)) e)
 | [],_,_=>rfl
 | y::p,m,e=>by
  simp only[gw];have a:max (max m (c+e)) (c+fD n y)=max m (c+max e (fD n y)):=by omega
  rw[a];exact A2 c p m (max e (fD n y))
theorem AR:(n:Nat)->(x:Tm n)->(d m:Int)->(∀a∈ay n x,cE a=true)->d<=m->nM (ay n x) (pP n x d) m=max m (d+fD n x)
 | 0,x,_,_,h,_=>by
  have:=h ((0,0,.empty),(none,0,0)) (by simp[ay]);rcases kv _ this with g|g|g|g|g|⟨g,_⟩<;>simp at g
 | n+1,x,d,m,h,k=>by
  have f:=h (bD n x) (by simp[ay,bD]);have key:∀(p:List (Tm n))(m:Int),(∀y∈p,y∈x.2.2)->d+1<=m->nM (p.flatMap λy=>ay n y) (p.flatMap λy=>pP n y (d+1)) m=p.foldl (λm y=>max m (d+1+fD n y)) m:=by
   intro p
   induction p with
   | nil=>intro m _ _;rfl
   | cons y p ih=>
    intro m l k;simp only[bF,gw];rw[rj _ _ _ _ _ (ke n y (d+1)).symm,AR n y (d+1) m (λa q=>h a (oU (l y (by simp)) q)) k];exact ih _ (λu t=>l u (by simp[t])) (by omega)
  have o:nM (ay (n+1) x) (pP (n+1) x d) m=nM (x.2.2.flatMap λy=>ay n y) (x.2.2.flatMap λy=>pP n y (d+1)) (ns (bD n x) d m):=rfl;rw[o];simp only[fD];by_cases b:x.1.1=4
  ·rw[if_pos b];have c:ns (bD n x) d m=max m (d+1+0):=by
    unfold ns bD;by_cases j:m<d+1
    ·rw[if_pos ⟨b,j⟩];omega
    ·rw[if_neg (λi=>j i.2)];omega
   rw[c,key x.2.2 _ (λ_ s=>s) (by omega),A2];omega
  ·rw[if_neg b];have r:x.2.2=[]:=by
    unfold cE at f;simp only[aG,iv,cv]at f;rcases f.2 with e|e
    ·exact(b e).elim
    ·have:¬(0:Int)<(x.2.2.length:Int):=by simpa [bD]using e
     exact bE (by omega)
   have c:ns (bD n x) d m=m:=Gb _ (λi=>b i.1);rw[r,c];simp only[List.flatMap_nil,nM];omega
theorem gn(n:Nat)(x:Tm n):wS n x=bz n x:=by
 unfold wS bz;rw[AH _ _ _ _ (ke n x 0).symm,<-lI n x];by_cases a:bZ n x=true
 ·rw[if_pos a,if_pos a];have d:∀b∈ay n x,cE b=true:=by
   rw[lI n x]at a;exact λb c=>ci.1 a b c
  have e:=fW n x;rw[AR n x 0 0 d (by omega)];have:max (0:Int) (0+fD n x)=fD n x:=by omega
  rw[this]
 ·rw[if_neg a,if_neg a]
theorem dL(n:Nat)(x:Tm n)(B:Nat)(w:World)(c:In B w n x)(a:B<=w.heap.size)(b:(ay n x).length<=2097152):ak 53 #[dq n x] w λe w'=>e=.returned (ab (bz n x))/\aj w w':=by
 rw[<-gn];exact Co n x B w c a b
def KJ(x:Nd):Bool:= !(x.1.1==5) && !(x.1.1==6)
def j9(n:Nat)(x:Tm n):Bool:=(ay n x).all KJ
def aL:(n:Nat)->Tm n->Bool
 | 0,_=>true
 | n+1,x=> !(x.1.1==5) && !(x.1.1==6) && x.2.2.all λy=>aL n y
theorem fz:(n:Nat)->(x:Tm n)->aL n x=j9 n x
 | 0,_=>by simp[aL,j9,ay,KJ]
 | n+1,x=>by
  have key:∀l:List (Tm n),(l.all λy=>aL n y)=(l.flatMap λy=>ay n y).all KJ:=by
   intro l
   induction l with
   | nil=>rfl
   | cons y l ih=>
    have:=fz n y;unfold j9 at this;simp only[ji,bF,kH,ih,this]
  show (!(x.1.1==5) && !(x.1.1==6) && x.2.2.all λy=>aL n y)=(KJ (x.1,(x.2.1.1,x.2.2.length,x.2.1.2)) && (x.2.2.flatMap λy=>ay n y).all KJ);rw[key];rfl
def OS(n:Nat):Prop:=∀(x:Tm n)(B:Nat)(w:World),In B w n x->B<=w.heap.size->
 ak 54 #[dq n x] w λe w'=>e=.returned (.bool (aL n x))/\aj w w'
theorem AN(n:Nat)(ih:OS n)(h I:Int)(s:ByteArray)(a:Option Addr)(pc len:Nat)(p:List (Tm n))(C:Hid (p.length=len))(B:Nat)(w:World)(g:Hid (p=[]\/∃b o,a=some ⟨b,o,none⟩/\b<B/\∀(i:Nat)(y:Tm n),p[i]?=some y->dC w b (o+i*4) n y/\In B w n y))(M:len<=9223372036854775807)(r:B<=w.heap.size):ak 54 #[.agg #[ab h,ab I,af s,ae a len pc]] w λe w'=>e=.returned (.bool (!(h==5) && !(h==6) && p.all λy=>aL n y))/\aj w w':=by
 cases h5:h==5
 case true=>
  go_enter func54,ntmps54;go_wp2_with fail
  go_ret
  exact⟨bP (by simp),(ao _ _).alloc (am _) _⟩
 cases h6:h==6
 case true=>
  go_enter func54,ntmps54;go_wp2_with fail
  go_ret
  exact⟨bP (by simp),(ao _ _).alloc (am _) _⟩
 have v:(!false && !false && p.all λy=>aL n y)=p.all λy=>aL n y:=by simp
 rw[v];clear v;go_enter func54,ntmps54;go_wp2_with fail;go_loopw [16] (λi wr=>∃k:Nat,k<=len/\i=ab k/\aj w wr/\Hid (((p.drop k).all λy=>aL n y)=p.all λy=>aL n y)) (λi _=>len-(intOf i).toNat)
 case atStart=>exact⟨0,by omega,rfl,(ao _ _).alloc (am _) _,rfl⟩
 case round=>
  obtain⟨k,J,rfl,d,t⟩:=hrel;by_cases F:k<len
  ·obtain⟨c,l⟩:∃c,p[k]?=some c:=⟨p[k]'(by rw[C.out];exact F),aI _⟩;have u:Hid (((p.drop k).all λy=>aL n y)=(aL n c && (p.drop (k+1)).all λy=>aL n y)):=by
    obtain⟨j,E⟩:=aS.1 l;rw[eH j,E];rfl
   rcases g.out with g|⟨N,po,rfl,G,g⟩
   ·subst g;simp at l
   obtain⟨m,q⟩:=g k c l;replace m:=m.below (d.mono r) G;replace q:=q.below (d.mono r);clear g l;cases n with
   | zero=>exact m.elim
   | succ n=>
   obtain⟨O,P,Q,R⟩:=m;have x:B<=wr.heap.size:=az r d.size
   have D:Hid (∀f,aj wr f->ak 54 #[.agg #[ab c.1.1,ab c.1.2.1,af c.1.2.2,ae c.2.1.1 c.2.2.length c.2.1.2]] f λe w'=>e=.returned (.bool (aL (n+1) c))/\aj f w'):=
    λf j=>ih c B f (q.below (j.mono x)) (az x j.size)
   clear ih q;generalize c.2.2.length=S at*;generalize aL (n+1) c=H at*;have K:(0:Int)<=(k:Int):=by omega
   have L:(k:Int)<(len:Int):=by omega
   go_wp2_with fail;refine(D _ ((ao _ _).alloc (am _) _)).mono ?_;rintro e f ⟨rfl,z⟩;have A:aj w f:=(d.trans (((ao _ _).alloc (am _) _).mono d.size)).trans (z.mono (by have:=d.size;simp;omega));clear z;cases H with
   | true=>
    go_wp2_with fail;go_roundw
    case rel=>exact⟨k+1,by omega,by go_num,A,by rw[<-t.out,u.out];rfl⟩
    case measure=>simp[intOf];omega
   | false=>
    go_wp2_with fail
    go_ret
    exact⟨bP (by rw[<-t.out,u.out];rfl),A⟩
  ·go_wp2_with fail
   go_ret
   refine⟨bP ?_,d⟩;rw[<-t.out,gu (by rw[C.out];omega)];rfl
theorem iN(n:Nat):OS n:=by
 induction n with
 | zero=>intro g b f a;exact a.elim
 | succ n ih=>
  intro g b f a i;obtain⟨⟨k,m,l⟩,⟨h,pc⟩,e⟩:=g;obtain⟨⟨_,_,_,j,d⟩,c⟩:=a;simp only at j d c;unfold maxLen at d;exact AN n ih k m l h pc e.length e rfl b f c (by omega) i
variable {base n N:Nat} {wp:BL} {mo:Option Nat} {f:Int×Int->List (Tm N)} {sl:Int×Int->Value} {w:World}
theorem nV.at{v:Value}{l:List (Tm N)}(d:nV base N v l w):∃a c,v=.slice a l.length c/\w.ownsRow base 31 4 (.slice a l.length c) l.length (dp N l):=by
 obtain⟨a,c,b⟩:=d.sliced;refine⟨a,c,b,?_⟩;rw[<-b];exact d
theorem FE(y:Tm (N+1)):vv (gj (N+1) y)=[.int .i64 y.1.1,.int .i64 y.1.2.1,.string y.1.2.2,.slice y.2.1.1 y.2.2.length y.2.1.2]:=rfl
theorem wu{e:Nat}(h:g9 base wp (some e) n N f sl w):wp.b≠e:=by
 intro g;obtain⟨_,i,c⟩:=h;rcases c with⟨c,_⟩|⟨m,a,j⟩
 ·cases c
 ·injection a with a;subst a g;obtain⟨k,⟨es,l,d,_⟩,_⟩:=j.map;rw[i.2]at d;cases d
theorem Aj(c:g9 base wp mo n N f sl w){k:Int×Int}(g:I2 k):(sl k).ownBlock≠some wp.b:=by
 intro d;obtain⟨h,a⟩:=ew (c.row g) wp.b d;rw[c.2.1.2]at a;injection a with a;injection a with _ e _;exact c.2.1.1.2 e
theorem LD{f:Int×Int->List (Tm (N+1))}(d:g9 base wp mo n (N+1) f sl w){k:Int×Int}(i:I2 k)(y:Tm (N+1))(ad:n<999999)(W:(f k).length<1000):Calls Tryz.prog 161 #[.pointer (some ⟨wp.b,wp.o,none⟩),pk k,dq (N+1) y] w λe w'=>e=.returned (.tuple #[])/\NU base wp mo n (N+1) f sl k (f k++ [y]) w w':=by
 have v:=d.lt wp.b (ah rfl);rcases d.2.2 with⟨rfl,rfl,rfl⟩|⟨m,rfl,D⟩
 ·obtain⟨wr,j⟩:∃wr,wr=(((w.alloc (.cells #[.int .i64 k.1,.int .i64 k.2] 44)).alloc (.cells #[.int .i64 y.1.1,.int .i64 y.1.2.1,.string y.1.2.2,.slice y.2.1.1 y.2.2.length y.2.1.2] 31)).alloc (.map #[] 0)).setCell ⟨wp.b,wp.o,none⟩ (.map (some (w.heap.size+1+1))):=⟨_,rfl⟩;have Y:wr.heap.size=w.heap.size+3:=by rw[j];simp[World.setCell]
  have T:bt (λb=>b=wp.b) w wr:=by
   rw[j];refine bt.trans (aK (((((ao w.heap.size w).alloc (am _) _).alloc (by simp) _).alloc (by simp;omega) _)) _) (bC _ wp.b wp.o _) λ_ _ e=>e
  have Z:tC wp (some (w.heap.size+1+1)) wr:=by
   rw[j];exact(d.2.1.kept (((((ao w.heap.size w).alloc (am _) (.cells #[.int .i64 k.1,.int .i64 k.2] 44)).alloc (by simp) (.cells #[.int .i64 y.1.1,.int .i64 y.1.2.1,.string y.1.2.2,.slice y.2.1.1 y.2.2.length y.2.1.2] 31)).alloc (by simp;omega) (.map #[] 0)).block wp.b v.2)).set
  have l:GM base (w.heap.size+1+1) n (N+1) (λ_=> []) (λ_=>mC) wr:=by
   have P:=GM.new ((w.alloc (.cells #[.int .i64 k.1,.int .i64 k.2] 44)).alloc (.cells #[.int .i64 y.1.1,.int .i64 y.1.2.1,.string y.1.2.2,.slice y.2.1.1 y.2.2.length y.2.1.2] 31)) (N+1);have e:((w.alloc (.cells #[.int .i64 k.1,.int .i64 k.2] 44)).alloc (.cells #[.int .i64 y.1.1,.int .i64 y.1.2.1,.string y.1.2.2,.slice y.2.1.1 y.2.2.length y.2.1.2] 31)).heap.size=w.heap.size+1+1:=by simp
   rw[e]at P
   have Q:=(P.kee (bC _ wp.b wp.o (.map (some (w.heap.size+1+1)))) λb a e=>by
    rcases a with a|⟨x,_,a⟩
    ·omega
    ·simp[mC,Value.ownBlock]at a)
   rw[<-j]at Q;exact(Q.rebase (by omega)).mono (aH _)
  refine(EK wp (w.heap.size+1+1) k.1 k.2 y.1.1 y.1.2.1 y.1.2.2 y.2.1.1 y.2.2.length y.2.1.2 0 0 none [] base w wr (λh r p=>NI base (w.heap.size+1+1) n (N+1) (λ_=> []) (λ_=>mC) k r h p) (λw'=>NU base wp none n (N+1) (λ_=> []) (λ_=>mC) k ([]++ [y]) w w') (by omega) (by omega) v.2 (ai ⟨rfl,j,λb a=>by simp[Value.ownBlock]at a,d.2.1⟩) ?_ ?_ ?_).mono λe w' d=>d
  ·intro h g;exact⟨rfl,ah ⟨rfl,rfl⟩⟩
  ·intro h g;exact l.open i (by omega) g
  ·intro h r p R ab S c C g F J B t H s;obtain⟨O,I,E,G,K⟩:=NI.done l i C g F J B t (y:=y) (L:=0) rfl (by simpa [dp,cC,FE]using H) s;refine⟨O,I,?_,G,K⟩;obtain⟨aa,z,q,A⟩:=E;have M:¬Ns (w.heap.size+1+1) (λ_=>mC) wp.b:=by
    rintro (e|⟨x,_,e⟩)
    ·omega
    ·simp[mC,Value.ownBlock]at e
   refine⟨some (w.heap.size+1+1),_,⟨d.1,Z.kept (q.block wp.b (by omega) M),ai ⟨_,rfl,z⟩⟩,?_,λb a=>?_⟩
   ·refine bt.trans (T.mono λb _ e=>ah e) q λb a e=>?_;rcases e with e|⟨x,_,e⟩
    ·omega
    ·simp[mC,Value.ownBlock]at e
   ·rcases a with a|a|a
    ·exact ah (ah a)
    ·injection a with a;exact ai (by omega)
    ·rcases A b (ai a)with(e|⟨x,_,e⟩)|e
     ·exact ai (by omega)
     ·simp[mC,Value.ownBlock]at e
     ·exact ai (by omega)
 ·obtain⟨sa,sc,u,ae⟩:=(D.row k i).at;have X:=D.lt m (ah rfl);obtain⟨wr,j⟩:∃wr,wr=(w.alloc (.cells #[.int .i64 k.1,.int .i64 k.2] 44)).alloc (.cells #[.int .i64 y.1.1,.int .i64 y.1.2.1,.string y.1.2.2,.slice y.2.1.1 y.2.2.length y.2.1.2] 31):=⟨_,rfl⟩;have a:Below w.heap.size w wr:=by
   rw[j];exact((ao _ _).alloc (am _) _).alloc (by simp) _
  have Y:wr.heap.size=w.heap.size+2:=by rw[j];simp
  have l:GM base m n (N+1) f sl wr:=D.kee (aK a λ_=>False) λ_ _ U=>U;refine(EK wp m k.1 k.2 y.1.1 y.1.2.1 y.1.2.2 y.2.1.1 y.2.2.length y.2.1.2 (f k).length sc sa (dp (N+1) (f k)) base w wr (λh r p=>NI base m n (N+1) f sl k r h p) (λw'=>NU base wp (some m) n (N+1) f sl k (f k++ [y]) w w') W (by omega) v.2 (ah ⟨X.2,wu d,j,λb a=>?_,d.cell.1⟩) ?_ ?_ ?_).mono λe w' d=>d
  ·rw[<-u]at a;exact⟨((d.row i).lt b a).2,λe=>Aj d i (by rw[a,e])⟩
  ·intro h g;rw[<-u];exact bk (l.row k i) g λb a e=>l.ne i (by rw[a,e])
  ·intro h g;rw[<-u];exact l.open i (by omega) g
  ·intro h r p R ab S c C g F J B t H s;rw[<-u]at t s;obtain⟨O,I,E,G,K⟩:=NI.done l i C g F J B t (y:=y) (L:=(f k).length) rfl (by simpa [FE]using H) s;refine⟨O,I,?_,G,K⟩;obtain⟨aa,z,q,A⟩:=E;have M:¬Ns m sl wp.b:=by
    rintro (e|⟨x,V,e⟩)
    ·exact wu d e
    ·exact Aj d V e
   refine⟨some m,_,⟨d.1,(d.2.1.kept (a.block wp.b v.2)).kept (q.block wp.b (by omega) M),ai ⟨_,rfl,z⟩⟩,?_,λb a=>?_⟩
   ·exact bt.trans (aK a _) q λb _ e=>E9 e
   ·rcases a with a|a|a
    ·exact ah (ah a)
    ·injection a with a;exact ah (ai (ah (by rw[a])))
    ·rcases A b (ai a)with e|e
     ·exact ah (E9 e)
     ·exact ai (by omega)
theorem rh(x y:Int)(w:World):ak 97 #[ab x,ab y] w λe w'=>e=.returned (ab (lB x y))/\w'=w:=by
 go_enter func97,ntmps97;go_wp2
 all_goals go_ret
 all_goals refine⟨jp ?_,rfl⟩
 all_goals unfold lB
 all_goals (repeat' split)<;>omega
theorem Jd(x y:ByteArray)(w:World):ak 204 #[af x,af y] w λe w'=>e=.returned (ab (wF x y))/\w'=w:=by
 go_enter func204,ntmps204;go_wp2
 all_goals go_ret
 all_goals refine⟨jp ?_,rfl⟩
 all_goals unfold wF
 all_goals simp[*]
attribute [local go_sem ↓] Go.wp_at_zero Go.wp_at_succ
def F5(n:Nat):Prop:=∀(x:Tm n)(m:Nat)(y:Tm m)(B:Nat)(w:World),In B w n x->In B w m y->B<=w.heap.size->
 ak 200 #[dq n x,dq m y] w λe w'=>e=.returned (ab (xG n x m y))/\aj w w'
theorem LM(p q:Nat)(a c:Option Addr)(pc d:Nat)(w:World)(_hpc:p<=9223372036854775807)(_hqc:q<=9223372036854775807)(b:((p:Int)==(q:Int))=false):ak 205 #[ae a p pc,ae c q d] w λe w'=>e=.returned (ab (lB p q))/\w'=w:=by
 have f:((p:Int) !=(q:Int))=true:=by simpa using b
 go_enter func205,ntmps205;go_wp2_with (go_at_call 97;refine(rh _ _ _).mono ?_;rintro e w' ⟨rfl,rfl⟩)
 go_ret
 exact⟨rfl,rfl⟩
theorem LK(n m:Nat)(ih:F5 n)(p:List (Tm n))(q:List (Tm m))(len:Nat)(M:Hid (p.length=len))(V:Hid (q.length=len))(g po h l pc X:Nat)(B:Nat)(w:World)(ah:len<=9223372036854775807)(T:g<B)(U:h<B)(L:∀(i:Nat)(y:Tm n),p[i]?=some y->dC w g (po+i*4) n y/\In B w n y)(N:∀(i:Nat)(y:Tm m),q[i]?=some y->dC w h (l+i*4) m y/\In B w m y)(o:B<=w.heap.size):ak 205 #[ae (some ⟨g,po,none⟩) len pc,ae (some ⟨h,l,none⟩) len X] w λe w'=> e=.returned (ab (pJ (λa b=>xG n a m b) p q))/\aj w w':=by
 go_enter func205,ntmps205;go_wp2_with fail;go_loopw [19] (λi wr=>∃k:Nat,k<=len/\i=ab k/\aj w wr/\Hid (pJ (λa b=>xG n a m b) (p.drop k) (q.drop k)=pJ (λa b=>xG n a m b) p q)) (λi _=>len-(intOf i).toNat)
 case atStart=>exact⟨0,by omega,rfl,ao _ _,rfl⟩
 case round=>
  obtain⟨k,aa,rfl,f,z⟩:=hrel;by_cases K:k<len
  ·obtain⟨c,A⟩:∃c,p[k]?=some c:=⟨p[k]'(by rw[M.out];exact K),aI _⟩;obtain⟨y,C⟩:∃y,q[k]?=some y:=⟨q[k]'(by rw[V.out];exact K),aI _⟩;obtain⟨s,t⟩:=L k c A;obtain⟨u,v⟩:=N k y C;have E:Hid (pJ (λa b=>xG n a m b) (p.drop k) (q.drop k)=if xG n c m y=0 then pJ (λa b=>xG n a m b) (p.drop (k+1)) (q.drop (k+1))else xG n c m y):=G4 (λa b=>xG n a m b) p q k c y A C;replace s:=s.below (f.mono o) T;replace u:=u.below (f.mono o) U;replace t:=t.below (f.mono o);replace v:=v.below (f.mono o);clear L N A C;cases n with
   | zero=>exact s.elim
   | succ n=>
   cases m with
   | zero=>exact u.elim
   | succ m=>
   obtain⟨am,an,ar,au⟩:=s;obtain⟨y0,y1,y2,av⟩:=u;have J:∀(d:World),In B d (n+1) c->In B d (m+1) y->B<=d.heap.size->ak 200 #[.agg #[ab c.1.1,ab c.1.2.1,af c.1.2.2,ae c.2.1.1 c.2.2.length c.2.1.2],.agg #[ab y.1.1,ab y.1.2.1,af y.1.2.2,ae y.2.1.1 y.2.2.length y.2.1.2]] d λe w'=>e=.returned (ab (xG (n+1) c (m+1) y))/\aj d w':=λd P Q R=>ih c (m+1) y B d P Q R;have D:=ap J;clear J ih;have F:=ap t;have G:=ap v;clear t v;generalize xG (n+1) c (m+1) y=r at*;generalize c.2.2.length=Y at*;generalize y.2.2.length=yl at*;have ad:(0:Int)<=(k:Int):=by omega
   have ag:(k:Int)<(len:Int):=by omega
   have S:B<=wr.heap.size:=az o f.size;have O:=ap (D wr.drew (F.below (ao _ _).drew) (G.below (ao _ _).drew) S);have ai:g<wr.heap.size:=by omega
   have al:h<wr.heap.size:=by omega
   clear D F G;go_wp2_with fail
   go_region_held3 (λw'=>w'.cell? ⟨g,po+k*4,none⟩=some (ab c.1.1)/\w'.cell? ⟨g,po+k*4+1,none⟩=some (ab c.1.2.1)/\w'.cell? ⟨g,po+k*4+2,none⟩=some (af c.1.2.2)/\w'.cell? ⟨g,po+k*4+3,none⟩=some (ae c.2.1.1 Y c.2.1.2)
       /\w'.cell? ⟨h,l+k*4,none⟩=some (ab y.1.1)/\w'.cell? ⟨h,l+k*4+1,none⟩=some (ab y.1.2.1)/\w'.cell? ⟨h,l+k*4+2,none⟩=some (af y.1.2.2)/\w'.cell? ⟨h,l+k*4+3,none⟩=some (ae y.2.1.1 yl y.2.1.2))
    (go_keep) ((go_at_call 200;refine O.mono ?_;rintro e d ⟨rfl,H⟩;have Z:=aq (cM H)))
   have I:aj w d:=f.trans ((cM H).mono f.size);by_cases j:r=0
   ·have x:Hid (r=0):=j;have W:(r !=0)=false:=by rw[j];rfl
    clear j;go_wp2_with fail;go_roundw
    case rel=>exact⟨k+1,by omega,by go_num,I,by rw[<-z.out,E.out,if_pos x.out];rfl⟩
    case measure=>simp[intOf];omega
   ·have x:Hid (¬r=0):=j;have W:(r !=0)=true:=by simpa using j
    clear j;go_wp2_with fail
    go_ret
    exact⟨jp (by rw[<-z.out,E.out,if_neg x.out]),I⟩
  ·go_wp2_with fail
   go_ret
   refine⟨jp ?_,f⟩;rw[<-z.out,gu (by rw[M.out];omega)];rfl
theorem AA(n m:Nat)(a c:Option Addr)(pc d:Nat)(w:World):ak 205 #[.slice a ([]:List (Tm n)).length pc,.slice c ([]:List (Tm m)).length d] w λe w'=>e=.returned (ab (pJ (λa b=>xG n a m b) [] []))/\aj w w':=by
 show ak 205 #[ae a 0 pc,ae c 0 d] w λe w'=>e=.returned (ab 0)/\aj w w';go_enter func205,ntmps205;go_wp2_with fail
 go_loop [19] (λf=>f=ab 0) (λ_=>0)
 case atStart=>rfl
 case round=>
  obtain rfl:=hrel;go_wp2_with fail
  go_ret
  exact⟨rfl,ao _ _⟩
theorem DN(w:World)(k b u h:Int)(s g:ByteArray)(a c:Option Addr)(pl f pc d:Nat)(e:¬k=b):ak 200 #[.agg #[ab k,ab u,af s,ae a pl pc],.agg #[ab b,ab h,af g,ae c f d]] w λe w'=>e=.returned (ab (lB k b))/\aj w w':=by
 have i:(k !=b)=true:=by simpa using e
 clear e;go_enter func200,ntmps200;go_wp2_with (go_at_call 97;refine(rh _ _ _).mono ?_;rintro e w' ⟨rfl,rfl⟩)
 go_ret
 exact⟨rfl,((ao _ _).alloc (am _) _).alloc (by simp) _⟩
theorem sD(w:World)(k u d:Int)(s c:ByteArray)(a f:Option Addr)(pl h pc g:Nat)(r:Int)(b:k=1\/k=3\/k=5):ak 200 #[.agg #[ab k,ab u,af s,ae a pl pc],.agg #[ab k,ab d,af c,ae f h g]] w λe w'=>e=.returned (ab (if k=1\/k=3\/k=5 then lB u d else if k=2 then wF s c else if k=4 then r else 0))/\aj w w':=by
 rw[if_pos b];rcases b with rfl|rfl|rfl
 all_goals
  go_enter func200,ntmps200;go_wp2_with (go_at_call 97;refine(rh _ _ _).mono ?_;rintro e w' ⟨rfl,rfl⟩)
  go_ret
  exact⟨rfl,((ao _ _).alloc (am _) _).alloc (by simp) _⟩
theorem G6(w:World)(u g:Int)(s b:ByteArray)(a c:Option Addr)(pl f pc d:Nat):ak 200 #[.agg #[ab 2,ab u,af s,ae a pl pc],.agg #[ab 2,ab g,af b,ae c f d]] w λe w'=>e=.returned (ab (wF s b))/\aj w w':=by
 go_enter func200,ntmps200;go_wp2_with (go_at_call 204;refine(Jd _ _ _).mono ?_;rintro e w' ⟨rfl,rfl⟩)
 go_ret
 exact⟨rfl,((ao _ _).alloc (am _) _).alloc (by simp) _⟩
theorem DM(w:World)(k u m:Int)(s l:ByteArray)(a h:Option Addr)(pl j pc i:Nat)(b:¬k=1)(c:¬k=2)(d:¬k=3)(f:¬k=4)(g:¬k=5):ak 200 #[.agg #[ab k,ab u,af s,ae a pl pc],.agg #[ab k,ab m,af l,ae h j i]] w λe w'=>e=.returned (ab 0)/\aj w w':=by
 have n:(k==1)=false:=by simpa using b
 have o:(k==2)=false:=by simpa using c
 have p:(k==3)=false:=by simpa using d
 have q:(k==4)=false:=by simpa using f
 have r:(k==5)=false:=by simpa using g
 clear b c d f g;go_enter func200,ntmps200;go_wp2_with fail
 go_ret
 exact⟨rfl,((ao _ _).alloc (am _) _).alloc (by simp) _⟩
theorem G7(w:World)(u j:Int)(s i:ByteArray)(a b:Option Addr)(pl f pc d:Nat)(r:Int)(c:∀w1:World,aj w w1->ak 205 #[ae a pl pc,ae b f d] w1 λe w'=>e=.returned (ab r)/\aj w1 w'):ak 200 #[.agg #[ab 4,ab u,af s,ae a pl pc],.agg #[ab 4,ab j,af i,ae b f d]] w λe w'=>e=.returned (ab r)/\aj w w':=by
 have g:=ap c;clear c;go_enter func200,ntmps200;go_wp2_with fail;refine(g _ (((ao _ _).alloc (am _) _).alloc (by simp) _)).mono ?_;rintro e w' ⟨rfl,h⟩;go_wp2_with fail
 go_ret
 exact⟨rfl,(((ao _ _).alloc (am _) _).alloc (by simp) _).trans (h.mono (by simp;omega))⟩
theorem G5(n:Nat):F5 n:=by
 induction n with
 | zero=>intro U g s H w G;exact G.elim
 | succ n ih=>
  intro U g s H w G q v;cases g with
  | zero=>exact q.elim
  | succ g=>
  obtain⟨⟨k,j,h⟩,⟨a,pc⟩,c⟩:=U;obtain⟨⟨z,l,i⟩,⟨f,e⟩,d⟩:=s;obtain⟨⟨M,Y,S,P,E⟩,o⟩:=G;obtain⟨⟨N,Z,T,R,F⟩,p⟩:=q;simp only at M Y S P E o N Z T R F p
  show ak 200 #[.agg #[ab k,ab j,af h,ae a c.length pc],.agg #[ab z,ab l,af i,ae f d.length e]] w λm B=>m=.returned (ab (if k=z then
   if k=1\/k=3\/k=5 then lB j l else if k=2 then wF h i else if k=4 then if c.length=d.length then pJ (λa b=>xG n a g b) c d else lB c.length d.length
   else 0 else lB k z))/\aj w B
  have V:∀r:World,aj w r->ak 205 #[ae a c.length pc,ae f d.length e] r λm B=>m=.returned (ab (if c.length=d.length then pJ (λa b=>xG n a g b) c d else lB c.length d.length))/\aj r B:=by
   intro r x;unfold maxLen at E F;by_cases t:c.length=d.length
   ·rw[if_pos t];rcases o with o|⟨aa,po,rfl,O,o⟩
    ·subst o;have X:d=[]:=bE t.symm;subst X;exact AA n g a f pc e r
    ·rcases p with p|⟨ad,ag,rfl,Q,p⟩
     ·subst p;have W:c=[]:=bE t;subst W;exact AA n g _ f pc e r
     ·have L:=LK n g ih c d c.length rfl t.symm aa po ad ag pc e H r (by omega) O Q (λy s q=>⟨(o y s q).1.below (x.mono v) O,(o y s q).2.below (x.mono v)⟩)
        (λy s q=>⟨(p y s q).1.below (x.mono v) Q,(p y s q).2.below (x.mono v)⟩) (az v x.size)
      rw[t]at L;rw[t];exact L
   ·rw[if_neg t];refine(LM c.length d.length a f pc e r (by omega) (by omega) (by simp;omega)).mono ?_;rintro m B ⟨rfl,rfl⟩;exact⟨rfl,ao _ _⟩
  generalize (if c.length=d.length then pJ (λa b=>xG n a g b) c d else lB c.length d.length)=A at*;clear o p ih P E R F S T v;generalize c.length=pl at*;generalize d.length=u at*;obtain⟨al,an⟩:=M;obtain⟨am,ap⟩:=N;by_cases m:k=z
  ·subst m;rw[if_pos rfl];by_cases I:k=1
   ·subst I;exact sD w 1 j l h i a f pl u pc e A (ah rfl)
   by_cases J:k=3
   ·subst J;exact sD w 3 j l h i a f pl u pc e A (ai (ah rfl))
   by_cases K:k=5
   ·subst K;exact sD w 5 j l h i a f pl u pc e A (ai (ai rfl))
   rw[if_neg (by omega)];by_cases C:k=2
   ·subst C;exact G6 w j l h i a f pl u pc e
   rw[if_neg C];by_cases D:k=4
   ·subst D;exact G7 w j l h i a f pl u pc e A V
   rw[if_neg D];exact DM w k j l h i a f pl u pc e I C J D K
  ·rw[if_neg m];exact DN w k z j l h i a f pl u pc e m
theorem jv(k u:Int)(s:ByteArray)(a:Option Addr)(l c:Nat)(w:World):ak 197 #[.agg #[ab k,ab u,af s,ae a l c]] w λe w'=>e=.returned (.bool (!(k==6)))/\aj w w':=by
 cases h:k==6
 all_goals
  go_enter func197,ntmps197;go_wp2_with fail
  go_ret
  exact⟨eW (by simp[bne,h]),(ao _ _).alloc (am _) _⟩
theorem BK(x:An)(y:An)(B:Nat)(w:World)(d:FJ B w x)(f:FJ B w y)(b:B<=w.heap.size)(g:aD x)(h:aD y):ak 200 #[dq x.1 x.2,dq y.1 y.2] w λe w'=>∃r,e=.returned (ab r)/\Hid ((r==0)=eq x y)/\aj w w':=by
 refine(G5 x.1 x.2 y.1 y.2 B w d f b).mono ?_;rintro e w' ⟨rfl,c⟩;refine⟨_,rfl,?_,c⟩;have a:=BJ x.1 x.2 y.1 y.2 g h;unfold Hid eq;cases hs:ax x.1 x.2 y.1 y.2
 ·rw[hs]at a;simp only[ph,iff_false]at a;simpa using a
 ·rw[hs]at a;simp only[iff_true]at a;simpa using a
theorem JH(b:List An)(base g c B:Nat)(w:World)(k:Nat)(K:k<4)(m:Nat)(t:Tm (m+1))(y:CK B w b)(M:In B w (m+1) t)(L:aD ⟨m+1,t⟩)(U:B<=base)(H:nh base g c b w):ak 198 #[ae (some ⟨g,0,none⟩) 4 c,ab k,.agg #[ab t.1.1,ab t.1.2.1,af t.1.2.2,ae t.2.1.1 t.2.2.length t.2.1.2]] w (eQ base g c (uN b k ⟨m+1,t⟩) w):=by
 obtain⟨a,v⟩:∃a,b[k]?=some a:=⟨b[k]'(by rw[y.1];exact K),aI _⟩;obtain⟨E,N⟩:=y.2 a (aJ v);obtain⟨n,a⟩:=a;cases n with
 | zero=>exact E.elim
 | succ n=>
 have D:Hid (uN b k ⟨m+1,t⟩=if a.1.1=6 then some (b.set k ⟨m+1,t⟩)else if eq ⟨n+1,a⟩ ⟨m+1,t⟩then some b else none):=by simp only[Hid,uN,v,bU];rfl
 obtain⟨j,l,p,q⟩:=H.cells k _ v;simp only[tf,gj,bD]at j l p q;have Z:(0:Int)<=(k:Int):=by omega
 have aa:(k:Int)<4:=by omega
 have A:=ap H;have I:=ap v;have R:g<w.heap.size:=H.lt.2;clear v H;generalize uN b k ⟨m+1,t⟩=o at*;cases h6:a.1.1==6
 case true=>
  go_enter func198,ntmps198;go_wp2_with fail;refine(jv _ _ _ _ _ _ _).mono ?_;rintro h e ⟨rfl,d⟩;have f:=ap d;clear j l p q;have r:Hid (nh base g c b e):=(A.kept (cR w _ none) (by simp)).below d;have W:=λS=>r.free S;obtain⟨⟨t0,t1,t2,t3⟩,_⟩:=EN d;obtain⟨j,l,p,q⟩:=r.out.cells k _ I;simp only[tf,gj,bD]at j l p q;clear d;go_wp2_with fail
  go_ret
  have s:o=some (b.set k ⟨m+1,t⟩):=by rw[D.out,if_pos (by simpa using h6)]
  subst s;exact⟨rfl,lJ (cP (((ao _ _).alloc (am _) _).trans (f.mono (by simp))) _) (DW _ _ _ _),λJ h=>by obtain rfl:=aw h;exact r.put k ⟨m+1,t⟩ (by rw[y.1];exact K)⟩
 case false=>
  go_enter func198,ntmps198;go_wp2_with fail;refine(jv _ _ _ _ _ _ _).mono ?_;rintro h e ⟨rfl,d⟩;clear j l p q;have f:Hid (aj w e):=((ao _ _).alloc (am _) _).trans (d.mono (by simp));have r:Hid (nh base g c b e):=(A.kept (cR w _ none) (by simp)).below d;obtain⟨⟨t0,t1,t2,t3⟩,_⟩:=EN d;obtain⟨j,l,p,q⟩:=r.out.cells k _ I;simp only[tf,gj,bD]at j l p q;have z:Hid (B<=w.heap.size):=by have:=A.lt;unfold Hid;omega
  have P:Hid (w.heap.size<e.heap.size):=by have:=d.size;simp at this;unfold Hid;omega
  have F:Hid (FJ B e ⟨n+1,a⟩/\FJ B e ⟨m+1,t⟩):=⟨E.below (f.mono z),FJ.below (x:=⟨m+1,t⟩) (f.mono z) M⟩;have Q:=ap (BK ⟨n+1,a⟩ ⟨m+1,t⟩ B e.drew (F.1.below (ao _ _).drew) (F.2.below (ao _ _).drew) (az z f.size) N L);clear d M E y N L;go_wp2_with fail
  go_region_held3 (λi=>i.cell? ⟨g,k*4,none⟩=some (ab a.1.1)/\i.cell? ⟨g,k*4+1,none⟩=some (ab a.1.2.1)/\i.cell? ⟨g,k*4+2,none⟩=some (af a.1.2.2)/\i.cell? ⟨g,k*4+3,none⟩=some (ae a.2.1.1 a.2.2.length a.2.1.2)
        /\i.cell? ⟨w.heap.size,0,none⟩=some (ab t.1.1)/\i.cell? ⟨w.heap.size,1,none⟩=some (ab t.1.2.1)/\i.cell? ⟨w.heap.size,2,none⟩=some (af t.1.2.2)/\i.cell? ⟨w.heap.size,3,none⟩=some (ae t.2.1.1 t.2.2.length t.2.1.2))
      (go_keep) ((go_at_call 200;refine Q.mono ?_;rintro h O ⟨T,rfl,G,u⟩;have V:=aq (cM u);have X:g<e.heap.size:=aR R f.size;have Y:w.heap.size<e.heap.size:=P.out))
  replace u:=cM u;have C:Hid (w.grownBy O (some g)/\nh base g c b O):=⟨cP (f.trans (u.mono f.size)) _,r.below u⟩;have s:o=if eq ⟨n+1,a⟩ ⟨m+1,t⟩then some b else none:=by rw[D.out,if_neg (by simpa using h6)]
  rw[<-G.out]at s;clear G D;cases h0:T==0
  all_goals
   rw[h0]at s;go_wp2_with fail
   go_ret
   simp only[ph,if_false,cT]at s;subst s
  ·exact⟨rfl,C.1,λJ h=>by cases h⟩
  ·exact⟨rfl,C.1,λJ h=>by obtain rfl:=aw h;exact C.2⟩
def BG(n:Nat)(y:Tm n):Bool:=bz n y==0 && (bU ⟨n,y⟩==6 || j9 n y)
def gg(n:Nat)(q:List (Tm n)):Bool:=decide (q.length=4) && q.all (BG n)
def fH(B:Nat)(w:World)(n:Nat)(q:List (Tm n))(a:Option Addr):Prop:=
 q=[]\/∃b o,a=some ⟨b,o,none⟩/\b<B/\∀(d:Nat)(c:Tm n),q[d]?=some c->dC w b (o+d*4) n c/\In B w n c
theorem fH.below{B:Nat}{w w':World}(d:Below B w w'){n:Nat}{q:List (Tm n)}{a:Option Addr}(k:fH B w n q a):fH B w' n q a:=by
 rcases k with c|⟨b,o,i,e,c⟩
 ·exact ah c
 ·exact ai ⟨b,o,i,e,λg h f=>⟨(c g h f).1.below d e,(c g h f).2.below d⟩⟩
theorem qU{a:Type}(f:a->Bool)(q:List a)(k:Nat)(y:a)(c:q[k]?=some y):(q.drop k).all f=(f y && (q.drop (k+1)).all f):=by
 obtain⟨d,b⟩:=aS.1 c;rw[eH d,b];rfl
theorem LJ(a:Option Addr)(len pc:Nat)(w:World)(_hl:len<=9223372036854775807)(b:((len:Int) !=4)=true):ak 183 #[ae a len pc] w λe w'=>e=.returned (.bool false)/\w'=w:=by
 go_enter func183,ntmps183;go_wp2_with fail
 go_ret
 exact⟨rfl,rfl⟩
theorem FP(n:Nat)(q:List (Tm n))(z po pc:Nat)(B:Nat)(w:World)(L:Hid (q.length=4))(R:z<B)(K:∀(i:Nat)(y:Tm n),q[i]?=some y->dC w z (po+i*4) n y/\In B w n y)(H:∀y∈q,(ay n y).length<=2097152)(C:B<=w.heap.size):ak 183 #[ae (some ⟨z,po,none⟩) 4 pc] w λe w'=>e=.returned (.bool (q.all (BG n)))/\aj w w':=by
 go_enter func183,ntmps183;go_wp2_with fail;go_loopw [10] (λi wr=>∃k:Nat,k<=4/\i=ab k/\aj w wr/\Hid ((q.drop k).all (BG n)=q.all (BG n))) (λi _=>4-(intOf i).toNat)
 case atStart=>exact⟨0,by omega,rfl,ao _ _,rfl⟩
 case round=>
  obtain⟨k,X,rfl,c,l⟩:=hrel;by_cases Q:k<4
  ·obtain⟨a,v⟩:∃a,q[k]?=some a:=⟨q[k]'(by rw[L.out];exact Q),aI _⟩;have s:=ap (qU (BG n) q k a v);obtain⟨x,m⟩:=K k a v;have I:=H a (aJ v);replace x:=x.below (c.mono C) R;replace m:=m.below (c.mono C);clear K v H;cases n with
   | zero=>exact x.elim
   | succ n=>
   obtain⟨T,U,V,W⟩:=x;have t:B<=wr.heap.size:=az C c.size
   have F:Hid (∀b,aj wr b->ak 53 #[.agg #[ab a.1.1,ab a.1.2.1,af a.1.2.2,ae a.2.1.1 a.2.2.length a.2.1.2]] b λe w'=>e=.returned (ab (bz (n+1) a))/\aj b w'):=
    λb j=>dL (n+1) a B b (m.below (j.mono t)) (az t j.size) I
   have N:Hid (∀b,aj wr b->ak 54 #[.agg #[ab a.1.1,ab a.1.2.1,af a.1.2.2,ae a.2.1.1 a.2.2.length a.2.1.2]] b λe w'=>e=.returned (.bool (aL (n+1) a))/\aj b w'):=
    λb j=>iN (n+1) a B b (m.below (j.mono t)) (az t j.size)
   have r:Hid (BG (n+1) a=(bz (n+1) a==0 && (a.1.1==6 || aL (n+1) a))):=by unfold Hid BG;rw[fz];rfl
   clear m I;generalize a.2.2.length=ad at*;generalize aL (n+1) a=cl at*;generalize bz (n+1) a=h at*;generalize BG (n+1) a=ok at*;have Y:(0:Int)<=(k:Int):=by omega
   have Z:(k:Int)<(4:Int):=by omega
   have aa:z<wr.heap.size:=by omega
   have E:Hid (∀o,aj wr (wr.alloc o)):=λo=>(ao _ _).alloc (am _) _;go_wp2_with fail;refine(F _ (E _)).mono ?_;rintro e b ⟨rfl,u⟩;obtain⟨⟨t0,t1,t2,t3⟩,_⟩:=EN u;have A:Hid (aj wr b):=(E _).trans (u.mono (by simp));have O:Hid (wr.heap.size<b.heap.size):=by have:=u.size;simp at this;unfold Hid;omega
   clear u T U V W F;by_cases f:h=0
   ·have P:(h !=0)=false:=by simp[f]
    have g:Hid (h=0):=f;clear f;go_wp2_with fail;refine(jv _ _ _ _ _ _ _).mono ?_;rintro e M ⟨rfl,D⟩;obtain⟨t4,t5,t6,t7⟩:=nW O D ⟨t0,t1,t2,t3⟩;have p:Hid (aj wr M):=A.trans (D.mono A.size);clear D t0 t1 t2 t3;cases G:a.1.1==6
    ·simp only[Bool.not_false];go_wp2_with fail;refine(N _ p).mono ?_;rintro e S ⟨rfl,J⟩;have d:aj w S:=c.trans ((p.trans (J.mono p.size)).mono c.size);clear J;cases cl with
     | true=>
      go_wp2_with fail;go_roundw
      case rel=>exact⟨k+1,by omega,by go_num,d,by rw[<-l.out,s.out,r.out,g.out];simp[Hid]⟩
      case measure=>simp[intOf];omega
     | false=>
      go_wp2_with fail
      go_ret
      exact⟨eW (by rw[<-l.out,s.out,r.out,g.out,G];simp),d⟩
    ·simp only[Bool.not_true];have d:aj w M:=c.trans (p.mono c.size);go_wp2_with fail;go_roundw
     case rel=>exact⟨k+1,by omega,by go_num,d,by rw[<-l.out,s.out,r.out,g.out,G];simp[Hid]⟩
     case measure=>simp[intOf];omega
   ·have P:(h !=0)=true:=by simpa using f
    have g:Hid ((h==0)=false):=by simpa [Hid]using f
    have d:aj w b:=c.trans (A.mono c.size);clear f;go_wp2_with fail
    go_ret
    exact⟨eW (by rw[<-l.out,s.out,r.out,g.out];simp),d⟩
  ·go_wp2_with fail
   go_ret
   refine⟨eW ?_,c⟩;rw[<-l.out,gu (by rw[L.out];omega)];rfl
theorem Az(n:Nat)(q:List (Tm n))(a:Option Addr)(pc B:Nat)(w:World)(d:fH B w n q a)(i:q.length<=9223372036854775807)(g:∀y∈q,(ay n y).length<=2097152)(f:B<=w.heap.size):ak 183 #[ae a q.length pc] w λe w'=>e=.returned (.bool (gg n q))/\aj w w':=by
 unfold gg;by_cases c:q.length=4
 ·rcases d with d|⟨b,o,rfl,h,j⟩
  ·rw[d]at c;simp at c
  ·have k:=FP n q b o pc B w c h j g f;rw[c];simpa using k
 ·refine(LJ a q.length pc w i (by simp;omega)).mono ?_;rintro e w' ⟨rfl,rfl⟩;exact⟨by simp[c],ao _ _⟩
def aT:(N:Nat)->(n:Nat)->Tm n->Tm N
 | 0,_,_=>()
 | _+1,0,_=>((0,0,.empty),(none,0),[])
 | N+1,n+1,x=>(x.1,x.2.1,x.2.2.map λy=>aT N n y)
theorem Mv(N n:Nat)(x:Tm (n+1)):gj (N+1) (aT (N+1) (n+1) x)=gj (n+1) x:=by simp[gj,bD,aT]
theorem xv(N n:Nat)(g:n<=N)(x:Tm n)(w:World)(b o:Nat)(k:dC w b o n x):dC w b o N (aT N n x):=by
 cases n with
 | zero=>exact k.elim
 | succ n=>
  obtain⟨N,rfl⟩:∃a,N=a+1:=⟨N-1,by omega⟩;obtain⟨c,d,e,f⟩:=k;exact⟨c,d,e,by simpa [aT]using f⟩
theorem oS:(N n:Nat)->n<=N->(x:Tm n)->(B:Nat)->(w:World)->In B w n x->In B w N (aT N n x)
 | _,0,_,_,_,_,k=>k.elim
 | 0,n+1,h,_,_,_,_=>by omega
 | N+1,n+1,h,x,B,w,k=>by
  obtain⟨j,a⟩:=k;refine⟨by simpa [aT]using j,?_⟩;rcases a with a|⟨b,o,e,g,a⟩
  ·exact ah (by simp[aT,a])
  ·refine ai ⟨b,o,e,g,λi y d=>?_⟩;simp only[aT,dt]at d;obtain⟨c,f,rfl⟩:=co.1 d;exact⟨xv N n (by omega) c w b _ (a i c f).1,oS N n (by omega) c B w (a i c f).2⟩
theorem nz:(N n:Nat)->n<=N->(x:Tm (n+1))->ay (N+1) (aT (N+1) (n+1) x)=ay (n+1) x
 | N,0,_,x=>by
  have:∀l:List (Tm 0),(l.map λy=>aT N 0 y).flatMap (λy=>ay N y)=l.flatMap λy=>ay 0 y:=by
   intro l
   induction l with
   | nil=>rfl
   | cons a l ih=>
    simp only[aN,bF,ih];congr 1;cases N with
    | zero=>rfl
    | succ N=>simp[aT,ay]
  simp only[ay,aT,ee,this]
 | 0,n+1,h,_=>by omega
 | N+1,n+1,h,x=>by
  have:∀l:List (Tm (n+1)),(l.map λy=>aT (N+1) (n+1) y).flatMap (λy=>ay (N+1) y)=l.flatMap λy=>ay (n+1) y:=by
   intro l
   induction l with
   | nil=>rfl
   | cons a l ih=>
    simp only[aN,bF,ih];rw[nz N n (by omega) a]
  have b:ay (N+2) (aT (N+2) (n+2) x)=(x.1,(x.2.1.1,(x.2.2.map λy=>aT (N+1) (n+1) y).length,x.2.1.2))::(x.2.2.map λy=>aT (N+1) (n+1) y).flatMap λy=>ay (N+1) y:=rfl;rw[b,this];simp[ay]
def nd(b:List An):Nat:=b.foldr (λa m=>max a.1 m) 0
theorem zZ(b:List An):∀a∈b,a.1<=nd b:=by
 induction b with
 | nil=>intro a d;cases d
 | cons c b ih=>
  intro a d;simp only[nd,List.foldr_cons];rcases cm.1 d with rfl|d
  ·omega
  ·have:=ih a d;unfold nd at this;omega
def Cw(b:List An):List (Tm (nd b)):=b.map λa=>aT (nd b) a.1 a.2
theorem K9(b:List An)(i:Nat)(y:Tm (nd b))(c:(Cw b)[i]?=some y):∃a,b[i]?=some a/\a.1<=nd b/\y=aT (nd b) a.1 a.2:=by
 simp only[Cw,dt]at c;obtain⟨a,d,rfl⟩:=co.1 c;exact⟨a,d,zZ b a (aJ d),rfl⟩
theorem La{base g c B:Nat}{b:List An}{w:World}(e:nh base g c b w)(k:∀y∈b,FJ B w y)(j:B<=w.heap.size):fH w.heap.size w (nd b) (Cw b) (some ⟨g,0,none⟩):=by
 refine ai ⟨g,0,rfl,e.lt.2,λa y m=>?_⟩;obtain⟨d,f,i,rfl⟩:=K9 b a y m;have h:=k d (aJ f);refine⟨?_,(oS _ _ i _ _ _ h).mono j⟩;obtain⟨n,o⟩:=d;have l:=e.cells a _ f;cases n with
 | zero=>exact h.elim
 | succ n=>
  rw[cX];exact xv _ _ i o w g (a*4) l
theorem IB{b:List An}(f:∀y∈b,aD y/\y.1≠0):∀y∈Cw b,aD ⟨nd b,y⟩:=by
 intro y k;obtain⟨m,h⟩:=cW k;obtain⟨e,g,i,rfl⟩:=K9 b m y h;have j:=f e (aJ g);obtain⟨n,o⟩:=e;cases n with
 | zero=>exact(j.2 rfl).elim
 | succ n=>
  intro p c;clear h k g f;generalize nd b=d at*;obtain⟨a,rfl⟩:∃a,d=a+1:=⟨d-1,by simp only at i;omega⟩;have l:=nz a n (by simp only at i;omega) o;simp only at c;rw[l]at c;exact j.1 p c
theorem uz{s t:ByteArray}(b:(s.toList==t.toList)=true):s=t:=by
 have a:s.toList=t.toList:=by simpa using b
 rw[cu,cu]at a;cases s;cases t;simp only at a;rw[Array.toList_inj.1 a]
theorem bG{n m:Nat}{x:Tm (n+1)}{y:Tm (m+1)}(c:ax (n+1) x (m+1) y=true):x.1=y.1/\aB (λa b=>ax n a m b) x.2.2 y.2.2=true:=by
 simp only[ax,aG,cv]at c;obtain⟨⟨⟨d,e⟩,f⟩,g⟩:=c;refine⟨?_,g⟩;have h:=uz (s:=x.1.2.2) (t:=y.1.2.2) (by simpa using f);exact fw d (fw e h)
theorem dc{n m:Nat}{x:Tm (n+1)}{y:Tm (m+1)}(c:x.1=y.1)(k:aB (λa b=>ax n a m b) x.2.2 y.2.2=true):ax (n+1) x (m+1) y=true:=by
 simp only[ax,c,k];simp
theorem qz{c β:Type}(f:c->β->Bool)(g:β->c->Bool):(p:List c)->(q:List β)->(∀a∈p,∀b,f a b=true->g b a=true)->aB f p q=true->aB g q p=true
 | [],[],_,_=>rfl
 | [],_::_,_,h=>by simp[aB]at h
 | _::_,[],_,h=>by simp[aB]at h
 | a::p,b::q,hf,h=>by
  simp only[aB,aG]at h ⊢;exact⟨hf a (by simp) b h.1,qz f g p q (λd e=>hf d (bM _ e)) h.2⟩
theorem dw:(n:Nat)->(x:Tm n)->(m:Nat)->(y:Tm m)->ax n x m y=true->ax m y n x=true
 | 0,_,_,_,h=>by simp[ax]at h
 | _+1,_,0,_,h=>by simp[ax]at h
 | n+1,x,m+1,y,h=>by
  obtain⟨c,d⟩:=bG h;exact dc c.symm (qz _ _ _ _ (λa _ b e=>dw n a m b e) d)
theorem oz{d β e:Type}(f:d->β->Bool)(g:β->e->Bool)(k:d->e->Bool):(p:List d)->(q:List β)->(r:List e)->(∀a∈p,∀b c,f a b=true->g b c=true->k a c=true)->aB f p q=true->aB g q r=true->aB k p r=true
 | [],[],[],_,_,_=>rfl
 | [],[],_::_,_,_,h=>by simp[aB]at h
 | [],_::_,_,_,h,_=>by simp[aB]at h
 | _::_,[],_,_,h,_=>by simp[aB]at h
 | _::_,_::_,[],_,_,h=>by simp[aB]at h
 | a::p,b::q,c::r,hf,h1,h2=>by
  simp only[aB,aG]at h1 h2 ⊢;exact⟨hf a (by simp) b c h1.1 h2.1,oz f g k p q r (λi j=>hf i (bM _ j)) h1.2 h2.2⟩
theorem bH:(n:Nat)->(x:Tm n)->(m:Nat)->(y:Tm m)->(l:Nat)->(d:Tm l)->ax n x m y=true->ax m y l d=true->ax n x l d=true
 | 0,_,_,_,_,_,h,_=>by simp[ax]at h
 | _+1,_,0,_,_,_,h,_=>by simp[ax]at h
 | _+1,_,_+1,_,0,_,_,h=>by simp[ax]at h
 | n+1,x,m+1,y,l+1,d,h,k=>by
  obtain⟨e,f⟩:=bG h;obtain⟨j,o⟩:=bG k;exact dc (e.trans j) (oz _ _ _ _ _ _ (λa _ b c g i=>bH n a m b l c g i) f o)
theorem iX{b:Type}(f:b->b->Bool):(p:List b)->(∀a∈p,f a a=true)->aB f p p=true
 | [],_=>rfl
 | a::p,h=>by
  simp only[aB,aG];exact⟨h a (by simp),iX f p λc d=>h c (bM _ d)⟩
theorem fC:(n:Nat)->(x:Tm n)->aD ⟨n,x⟩->ax n x n x=true
 | 0,_,h=>(dj h).elim
 | n+1,x,h=>dc rfl (iX _ _ λy a=>fC n y (aV n x y h a))
theorem aM{n:Nat}{x:Tm n}:aD ⟨n,x⟩ ↔ bZ n x=true:=by
 rw[lI,ci];exact Iff.rfl
theorem Mf{x:Int×Int×ByteArray}{a b:Option Addr}{l c d:Nat}:cE (x,(a,l,c))=cE (x,(b,l,d)):=rfl
theorem sJ{c β:Type}(f:c->β->Bool)(g:c->Bool)(k:β->Bool):(p:List c)->(q:List β)->(∀a∈p,∀b,f a b=true->g a=k b)->aB f p q=true->p.all g=q.all k
 | [],[],_,_=>rfl
 | [],_::_,_,h=>by simp[aB]at h
 | _::_,[],_,h=>by simp[aB]at h
 | a::p,b::q,hf,h=>by
  simp only[aB,aG]at h;simp only[ji,hf a (by simp) b h.1,sJ f g k p q (λd e=>hf d (bM _ e)) h.2]
theorem kB{c β d:Type}(f:c->β->Bool)(g:c->d)(k:β->d):(p:List c)->(q:List β)->(∀a∈p,∀b,f a b=true->g a=k b)->aB f p q=true->p.map g=q.map k
 | [],[],_,_=>rfl
 | [],_::_,_,h=>by simp[aB]at h
 | _::_,[],_,h=>by simp[aB]at h
 | a::p,b::q,hf,h=>by
  simp only[aB,aG]at h;simp only[aN,hf a (by simp) b h.1,kB f g k p q (λe i=>hf e (bM _ i)) h.2]
theorem uO{b:Type}(g:b->Int):(p:List b)->(i:Int)->p.foldl (λm y=>max m (g y)) i=(p.map g).foldl max i
 | [],_=>rfl
 | a::p,i=>by simp only[gw,aN];exact uO g p _
theorem cF:(n:Nat)->(x:Tm n)->(m:Nat)->(y:Tm m)->ax n x m y=true->aL n x=aL m y
 | 0,_,_,_,h=>by simp[ax]at h
 | _+1,_,0,_,h=>by simp[ax]at h
 | n+1,x,m+1,y,h=>by
  obtain⟨c,d⟩:=bG h;simp only[aL,c];rw[sJ _ _ _ _ _ (λa _ b e=>cF n a m b e) d]
theorem jB:(n:Nat)->(x:Tm n)->(m:Nat)->(y:Tm m)->ax n x m y=true->bZ n x=bZ m y
 | 0,_,_,_,h=>by simp[ax]at h
 | _+1,_,0,_,h=>by simp[ax]at h
 | n+1,x,m+1,y,h=>by
  obtain⟨a,c⟩:=bG h;have e:cE (bD n x)=cE (bD m y):=by
   have g:=cI _ _ _ c;unfold bD;rw[a,g];exact Mf
  simp only[bZ,e,a];rw[sJ _ _ _ _ _ (λd _ b f=>jB n d m b f) c]
theorem lO:(n:Nat)->(x:Tm n)->(m:Nat)->(y:Tm m)->ax n x m y=true->sz n x=sz m y
 | 0,_,_,_,h=>by simp[ax]at h
 | _+1,_,0,_,h=>by simp[ax]at h
 | n+1,x,m+1,y,h=>by
  obtain⟨c,d⟩:=bG h;simp only[sz,c];rw[kB _ (λy=>1+sz n y) (λy=>1+sz m y) _ _ (λa _ b e=>by rw[lO n a m b e]) d]
theorem B7:(n:Nat)->(x:Tm n)->(m:Nat)->(y:Tm m)->ax n x m y=true->fD n x=fD m y
 | 0,_,_,_,h=>by simp[ax]at h
 | _+1,_,0,_,h=>by simp[ax]at h
 | n+1,x,m+1,y,h=>by
  obtain⟨c,d⟩:=bG h;simp only[fD,c];rw[uO (λy=>fD n y),uO (λy=>fD m y),kB _ (λy=>fD n y) (λy=>fD m y) _ _ (λa _ b e=>B7 n a m b e) d]
theorem bQ{n m:Nat}{x:Tm n}{y:Tm m}(a:ax n x m y=true):bz n x=bz m y:=by
 rw[<-gn,<-gn];unfold wS;rw[jB n x m y a,lO n x m y a,B7 n x m y a]
theorem kC{n m:Nat}{x:Tm n}{y:Tm m}(a:ax n x m y=true):bU ⟨n,x⟩=bU ⟨m,y⟩:=by
 cases n with
 | zero=>simp[ax]at a
 | succ n=>
  cases m with
  | zero=>simp[ax]at a
  | succ m=>
   have:=(bG a).1;simp only[bU,this]
theorem jA{c β:Type}(f:c->β->Bool):(p:List c)->(q:List β)->aB f p q=true->∀(i:Nat)(a:c)(b:β),p[i]?=some a->q[i]?=some b->f a b=true
 | [],_,_,i,a,b,ha,_=>by simp at ha
 | _::_,[],h,_,_,_,_,_=>by simp[aB]at h
 | a::p,b::q,h,0,a',b',ha,hb=>by
  simp only[aB,aG]at h;simp at ha hb;subst ha hb;exact h.1
 | a::p,b::q,h,i+1,a',b',ha,hb=>by
  simp only[aB,aG]at h;exact jA f p q h.2 i a' b' (by simpa using ha) (by simpa using hb)
theorem iW{b β:Type}(f:β->b->Bool)(g:b->β):(p:List b)->(∀a∈p,f (g a) a=true)->aB f (p.map g) p=true
 | [],_=>rfl
 | a::p,h=>by
  simp only[aN,aB,aG];exact⟨h a (by simp),iW f g p λc d=>h c (bM _ d)⟩
theorem fA:(N n:Nat)->n<=N->(x:Tm n)->aD ⟨n,x⟩->ax N (aT N n x) n x=true
 | _,0,_,_,h=>(dj h).elim
 | 0,n+1,h,_,_=>by omega
 | N+1,n+1,h,x,hr=>dc rfl (iW _ _ _ λy a=>fA N n (by omega) y (aV n x y hr a))
def gQ(b c:Bool)(a:Int)(cl:Bool)(L:Nat):Int:=if b=false\/c=false then 1 else if a≠0 then a else if cl=false then 5 else if 20<=L then 2 else 0
theorem EE(wp:BL)(a b:Int)(k u:Int)(s:ByteArray)(h:Option Addr)(j i:Nat)(v g:Bool)(d:Int)(cl:Bool)(L:Nat)(w:World)(C:Int->Int->ByteArray->Option Addr->Nat->Nat->World->World->Prop)(I:World->Prop)(ai:L<=1000)(O:Hid (∀W,ak 159 #[ab a] W λe w'=>e=.returned (.bool v)/\w'=W))(P:Hid (∀W,ak 159 #[ab b] W λe w'=>e=.returned (.bool g)/\w'=W))(U:Hid (∀W,aj w W->ak 53 #[.agg #[ab k,ab u,af s,ae h j i]] W λe w'=>e=.returned (ab d)/\aj W w'))(V:Hid (∀W,aj w W->ak 54 #[.agg #[ab k,ab u,af s,ae h j i]] W λe w'=>e=.returned (.bool cl)/\aj W w'))(X:Hid (∀W,aj w W->ak 160 #[.pointer (some ⟨wp.b,wp.o,none⟩),ab a,ab b] W λe w'=>e=.returned (ab L)/\w'=W))(S:Hid (∀W,d=0->aj w W->ak 56 #[.agg #[ab k,ab u,af s,ae h j i]] W λe w'=>∃m n t p r q,e=.returned (.agg #[ab m,ab n,af t,ae p r q])/\Hid (C m n t p r q W w')))(Q:Hid (∀m n t p r q W w1,gQ v g d cl L=0->C m n t p r q W w1->aj w W->ak 161 #[.pointer (some ⟨wp.b,wp.o,none⟩),.agg #[ab a,ab b],.agg #[ab m,ab n,af t,ae p r q]] w1 λe w'=>e=.returned (.tuple #[])/\Hid (I w'))):ak 121 #[.pointer (some ⟨wp.b,wp.o,none⟩),ab a,ab b,.agg #[ab k,ab u,af s,ae h j i]] w λe w'=>e=.returned (ab (gQ v g d cl L))/\(gQ v g d cl L≠0->aj w w')/\(gQ v g d cl L=0->I w'):=by
 have M:Hid (∃l f,l=w.alloc (.cells #[ab k,ab u,af s,ae h j i] 31)/\f=w.heap.size):=⟨_,_,rfl,rfl⟩;go_enter func121,ntmps121;go_wp2_with fail;obtain⟨l,f,B,H⟩:=M.out;rw[<-B,<-H];have x:Hid (aj w l):=by
  rw[B];exact(ao _ _).alloc (am _) _
 have K:Hid (l.heap[f]?=some (.cells #[ab k,ab u,af s,ae h j i] 31)/\f<l.heap.size):=by
  rw[B,H];exact⟨aA w _,by simp⟩
 have E:Hid (∀W,aj l W->W.cell? ⟨f,0,none⟩=some (ab k)/\W.cell? ⟨f,1,none⟩=some (ab u)/\W.cell? ⟨f,2,none⟩=some (af s)/\W.cell? ⟨f,3,none⟩=some (ae h j i)):=by
  intro W aa;have c:=(aa.block f K.2).trans K.1;exact⟨ag c 0,ag c 1,ag c 2,ag c 3⟩
 clear B H M;refine(O l).mono ?_;rintro e w1 ⟨rfl,rfl⟩;cases v
 ·go_wp2_with fail
  go_ret
  have e:gQ false g d cl L=1:=by simp[gQ]
  rw[e];exact⟨rfl,λ_=>x,λc=>by cases c⟩
 ·go_wp2_with fail;refine(P _).mono ?_;rintro e an ⟨rfl,rfl⟩;cases g
  ·go_wp2_with fail
   go_ret
   have e:gQ true false d cl L=1:=by simp[gQ]
   rw[e];exact⟨rfl,λ_=>x,λc=>by cases c⟩
  ·obtain⟨t0,t1,t2,t3⟩:=E.out _ (ao _ _);go_wp2_with fail;refine(U _ x).mono ?_;rintro e aq ⟨rfl,F⟩;have D:=ap F;have A:=ap (x.trans (F.mono x.size));clear F t0 t1 t2 t3;by_cases z:d=0;rotate_left
   ·have al:¬(0:Int)=d:=λe=>z e.symm;go_wp2_with fail
    go_ret
    have e:gQ true true d cl L=d:=by simp[gQ,z]
    rw[e];exact⟨rfl,λ_=>A,λc=>absurd c z⟩
   ·obtain⟨t0,t1,t2,t3⟩:=E.out _ D;have ah:=ap z;subst z;go_wp2_with fail;refine(V _ A).mono ?_;rintro e ar ⟨rfl,G⟩;have R:=ap (D.trans (G.mono D.size));have y:=ap (A.trans (G.mono A.size));clear G t0 t1 t2 t3;cases cl
    ·go_wp2_with fail
     go_ret
     have e:gQ true true 0 false L=5:=by simp[gQ]
     rw[e];exact⟨rfl,λ_=>y,λc=>by cases c⟩
    ·go_wp2_with fail;refine(X _ y).mono ?_;rintro e au ⟨rfl,rfl⟩;by_cases N:20<=L
     ·have Z:(20:Int)<=(L:Int):=by omega
      go_wp2_with fail
      go_ret
      have e:gQ true true 0 true L=2:=by simp[gQ,N]
      rw[e];exact⟨rfl,λ_=>y,λc=>by cases c⟩
     ·have Z:¬(20:Int)<=(L:Int):=by omega
      have J:Hid (gQ true true 0 true L=0):=(show gQ true true 0 true L=0 by simp[gQ,N]);obtain⟨t0,t1,t2,t3⟩:=E _ R;go_wp2_with fail;refine(S _ (by simp) y).mono ?_;rintro e ad ⟨m,n,t,p,r,q,rfl,Y⟩;go_wp2_with fail;refine(Q m n t p r q _ ad J Y y).mono ?_;rintro e av ⟨rfl,T⟩;go_wp2_with fail
      go_ret
      rw[J.out];exact⟨rfl,λc=>absurd rfl c,λ_=>T⟩
theorem EC{n:Nat}{x:Tm n}(a:bz n x=0):aD ⟨n,x⟩:=by
 rw[aM];rw[<-gn]at a;unfold wS at a;split at a
 ·rename_i b;simpa using b
 ·cases a
variable {base n N:Nat} {wp:BL} {mo:Option Nat} {f:Int×Int->List (Tm (N+1))} {sl:Int×Int->Value} {w:World}
def MH(a:Int):Bool:=decide (1<=a) && decide (a<=99)
def nO(N:Nat)(a b:Int)(x:Tm (N+1))(L:Nat):Int:=gQ (MH a) (MH b) (bz (N+1) x) (aL (N+1) x) L
def IR(base:Nat)(wp:BL)(mo:Option Nat)(n N:Nat)(f:Int×Int->List (Tm (N+1)))(sl:Int×Int->Value)(k:Int×Int)(x:Tm (N+1))(w w':World):Prop:=
 ∃a c d,ax (N+1) a (N+1) x=true/\g9 base wp c (n+1) (N+1) (iI f k (f k++ [a])) d w'/\bt (rX wp mo sl) w w'/\(∀b,rX wp c d b->rX wp mo sl b\/w.heap.size<=b)/\In w'.heap.size w' (N+1) a/\ch (λb=>w.heap.size<=b/\¬rX wp c d b) (N+1) a
theorem KH(i:g9 base wp mo n (N+1) f sl w){a b:Int}(p:I2 (a,b))(x:Tm (N+1))(m:In w.heap.size w (N+1) x)(D:(ay (N+1) x).length<=2097152)(H:n<999999)(G:(f (a,b)).length<=1000):ak 121 #[.pointer (some ⟨wp.b,wp.o,none⟩),ab a,ab b,dq (N+1) x] w λe w'=>e=.returned (ab (nO N a b x (f (a,b)).length))/\(nO N a b x (f (a,b)).length≠0->aj w w')/\(nO N a b x (f (a,b)).length=0->IR base wp mo n N f sl (a,b) x w w'):=by
 refine EE wp a b x.1.1 x.1.2.1 x.1.2.2 x.2.1.1 x.2.2.length x.2.1.2 (MH a) (MH b) (bz (N+1) x) (aL (N+1) x) (f (a,b)).length w
  (λu v B y A z g w'=>∃c:Tm (N+1),(u=c.1.1/\v=c.1.2.1/\B=c.1.2.2/\y=c.2.1.1/\A=c.2.2.length/\z=c.2.1.2)/\aj g w'/\In w'.heap.size w' (N+1) c/\ch (λM=>g.heap.size<=M) (N+1) c/\ax (N+1) c (N+1) x=true)
  (λw'=>IR base wp mo n N f sl (a,b) x w w') G (λg=>Fi a g) (λg=>Fi b g) (λg d=>?_) (λg d=>?_) (λg d=>?_) (λg F d=>?_) ?_
 ·exact dL (N+1) x w.heap.size g (m.below d) d.size D
 ·exact iN (N+1) x w.heap.size g (m.below d) d.size
 ·exact IF (i.later d) p
 ·refine(ij (N+1) x w.heap.size g (m.below d) d.size (EC F)).mono ?_;rintro e w' ⟨c,rfl,I⟩;exact⟨c.1.1,c.1.2.1,c.1.2.2,c.2.1.1,c.2.2.length,c.2.1.2,rfl,⟨c,⟨rfl,rfl,rfl,rfl,rfl,rfl⟩,I⟩⟩
 ·rintro u v B y A z g P h ⟨c,⟨rfl,rfl,rfl,rfl,rfl,rfl⟩,E,q,r,J⟩ d;have l:aj w P:=d.trans (E.mono d.size);have C:(f (a,b)).length<1000:=by
   by_cases Q:20<=(f (a,b)).length
   ·exfalso;unfold gQ at h;split at h
    ·cases h
    ·split at h
     ·contradiction
     ·split at h
      ·cases h
      ·first|cases h|(split at h<;>first|cases h|contradiction)
   ·omega
  refine(LD (i.later l) p c H C).mono ?_;rintro e w' ⟨rfl,L,O,K,s,t⟩;refine⟨rfl,c,L,O,J,K,bt.trans (aK l _) s λ_ _ e=>e,λb j=>?_,?_,?_⟩
  ·rcases t b j with e|e
   ·exact ah e
   ·exact ai (az l.size e)
  ·refine q.kee s (r.mono λb j k=>?_);have:=(i.lt b k).2;have:=d.size;omega
  ·refine(In.offB r q).mono λb j=>⟨az d.size j.1,λk=>?_⟩;rcases t b k with e|e
   ·have:=(i.lt b e).2;have:=d.size;omega
   ·omega
theorem Ia(wp:BL)(mo:Option Nat)(a b:Int)(w:World)(F:wp.b<w.heap.size)(y:Hid (w.cell? ⟨wp.b,wp.o,none⟩=some (.map mo)))(z:Hid (∀W,aj w W->(Instr.lookup 51 (.map mo) (.agg #[ab a,ab b]) false).run Tryz.prog W=.ok (ae none 0 0) W)):ak 50 #[.pointer (some ⟨wp.b,wp.o,none⟩),ab a,ab b] w λe w'=>e=.returned (.tuple #[.agg #[ab 0,ab 0,af ⟨#[]⟩,ae none 0 0],ab 4])/\aj w w':=by
 have t:=y.out;have s:Hid (∃wr c d,wr=(w.alloc (.cells #[ab 0,ab 0,af ⟨#[]⟩,ae none 0 0] 31)).alloc (.cells #[ab a,ab b] 44)/\c=w.heap.size/\d=w.heap.size+1):=⟨_,_,_,rfl,rfl,rfl⟩;go_enter func50,ntmps50;go_wp2_with fail;obtain⟨wr,c,d,f,l,m⟩:=s.out;rw[<-f,<-m,<-l];have E:wr.heap.size=w.heap.size+2:=by rw[f];simp
 have HB:Hid (aj w wr):=by
  rw[f];exact((ao _ _).alloc (am _) _).alloc (by simp) _
 have A:Hid (wr.heap[c]?=some (.cells #[ab 0,ab 0,af ⟨#[]⟩,ae none 0 0] 31)):=by
  rw[f,l];exact(((ao _ _).alloc (am _) _).block w.heap.size (by simp)).trans (aA w _)
 have B:Hid (wr.heap[d]?=some (.cells #[ab a,ab b] 44)):=by
  rw[f,m];have C:=aA (w.alloc (.cells #[ab 0,ab 0,af ⟨#[]⟩,ae none 0 0] 31)) (.cells #[ab a,ab b] 44);have e:(w.alloc (.cells #[ab 0,ab 0,af ⟨#[]⟩,ae none 0 0] 31)).heap.size=w.heap.size+1:=by simp
  rwa [e]at C
 have k:Hid (c<wr.heap.size/\d<wr.heap.size/\wp.b<wr.heap.size/\w.heap.size<=c/\w.heap.size<=d/\wp.b<w.heap.size):=(show _/\_ by omega);have r:Hid (∀W,aj wr W->W.cell? ⟨wp.b,wp.o,none⟩=some (.map mo)/\W.cell? ⟨d,0,none⟩=some (ab a)/\W.cell? ⟨d,1,none⟩=some (ab b)):=by
  intro W j;have u:=(j.block d k.2.1).trans B;exact⟨((j.cell (p:=⟨wp.b,wp.o,none⟩) k.2.2.1).trans (HB.cell (p:=⟨wp.b,wp.o,none⟩) F)).trans t,ag u 0,ag u 1⟩
 have q:Hid (aj wr wr.drew):=(ao _ _).drew;have n:Hid (∀W,aj wr W->aj w W):=λW j=>HB.trans (j.mono HB.size);have K:=z _ (n _ q);obtain⟨L,M,N⟩:=r.out wr (ao _ _);clear f l m s E t;go_region_held3 (λW=>W.cell? ⟨wp.b,wp.o,none⟩=some (.map mo)/\W.cell? ⟨d,0,none⟩=some (ab a)/\W.cell? ⟨d,1,none⟩=some (ab b)) (first|(go_keep;done)|exact r _ q) (fail);have g:=A.out;have G:wr.cell? ⟨c,0,none⟩=some (ab 0):=ag g 0;have H:wr.cell? ⟨c,1,none⟩=some (ab 0):=ag g 1;have I:wr.cell? ⟨c,2,none⟩=some (af ⟨#[]⟩):=ag g 2;have J:wr.cell? ⟨c,3,none⟩=some (ae none 0 0):=ag g 3;have h:∀x,wr.frozen? ⟨c,x,none⟩=false:=λx=>by simp[World.frozen?,g]
 have f0:=h 0;have f1:=h 1;have f2:=h 2;have f3:=h 3;clear h g;have i:=ap k.2.2.2.1;go_wp2_with fail;refine av (v:=.tuple #[.agg #[ab 0,ab 0,af ⟨#[]⟩,ae none 0 0],ab 4]) (by simp[results,results50,go_sem,G,H,I,J]) rfl ⟨rfl,?_⟩;have D:=n _ (ao _ _);exact((((D.setCell i.out _).setCell i.out _).setCell i.out _).setCell i.out _).drew
theorem yg(wp:BL)(i g c m:Nat)(y0 y1:Int)(ys:ByteArray)(ya:Option Addr)(yl yc:Nat)(a b:Int)(w:World)(G:World->Prop)(R:World->World->Prop)(aW:wp.b<w.heap.size)(M:g<w.heap.size)(a3:i<w.heap.size)(aT:wp.b≠i)(aS:wp.b≠g)(aH:Hid (w.cell? ⟨wp.b,wp.o,none⟩=some (.map (some i))))(ar:Hid (∀W,aj w W->(Instr.lookup 51 (.map (some i)) (.agg #[ab a,ab b]) false).run Tryz.prog W=.ok (ae (some ⟨g,0,none⟩) (m+1) c) W))(aM:Hid (w.cell? ⟨g,0,none⟩=some (ab y0)/\w.cell? ⟨g,1,none⟩=some (ab y1)/\w.cell? ⟨g,2,none⟩=some (af ys)/\w.cell? ⟨g,3,none⟩=some (ae ya yl yc)))(aP:(m=0/\Hid (∀W,aj w W->∃w',(∀ty,(Builtin.delete_ #[51,44] ty #[.map (some i),.agg #[ab a,ab b]]).run Tryz.prog W=.ok (.tuple #[]) w')/\bt (λb=>b=i) W w'/\w'.heap.size=W.heap.size/\∀w2,Below w.heap.size w' w2->G w2))\/(1<=m/\m<=1000/\Hid (∀W,aj w W->ak 84 #[ae (some ⟨g,0,none⟩) (m+1) c,ab 0,ab 1] W λe w'=>e=.returned (ae (some ⟨g,0,none⟩) m c)/\Hid (W.grownBy w' (some g)/\R W w'))/\Hid (∀W H,R W H->aj w W->W.grownBy H (some g)->∃w',(Instr.mapUpdate 51 (.map (some i)) (.agg #[ab a,ab b]) (ae (some ⟨g,0,none⟩) m c)).run Tryz.prog H=.ok () w'/\bt (λb=>b=i) H w'/\∀w2,Below w.heap.size w' w2->G w2))):ak 50 #[.pointer (some ⟨wp.b,wp.o,none⟩),ab a,ab b] w λe w'=>e=.returned (.tuple #[.agg #[ab y0,ab y1,af ys,ae ya yl yc],ab 0])/\G w':=by
 have aB:=aH.out;have ay:Hid (∃wr f h,wr=(w.alloc (.cells #[ab 0,ab 0,af ⟨#[]⟩,ae none 0 0] 31)).alloc (.cells #[ab a,ab b] 44)/\f=w.heap.size/\h=w.heap.size+1):=⟨_,_,_,rfl,rfl,rfl⟩;go_enter func50,ntmps50;go_wp2_with fail;obtain⟨wr,f,h,u,S,T⟩:=ay.out;rw[<-u,<-T,<-S];have aV:wr.heap.size=w.heap.size+2:=by rw[u];simp
 have HB:Hid (aj w wr):=by
  rw[u];exact((ao _ _).alloc (am _) _).alloc (by simp) _
 have aK:Hid (wr.heap[f]?=some (.cells #[ab 0,ab 0,af ⟨#[]⟩,ae none 0 0] 31)):=by
  rw[u,S];exact(((ao _ _).alloc (am _) _).block w.heap.size (by simp)).trans (aA w _)
 have ax:Hid (wr.heap[h]?=some (.cells #[ab a,ab b] 44)):=by
  rw[u,T];have J:=aA (w.alloc (.cells #[ab 0,ab 0,af ⟨#[]⟩,ae none 0 0] 31)) (.cells #[ab a,ab b] 44);have e:(w.alloc (.cells #[ab 0,ab 0,af ⟨#[]⟩,ae none 0 0] 31)).heap.size=w.heap.size+1:=by simp
  rwa [e]at J
 have x:Hid (f<wr.heap.size/\h<wr.heap.size/\wp.b<wr.heap.size/\w.heap.size<=f/\w.heap.size<=h/\wp.b<w.heap.size):=(show _/\_ by omega);have Q:Hid (∀W,aj wr W->W.cell? ⟨wp.b,wp.o,none⟩=some (.map (some i))/\W.cell? ⟨h,0,none⟩=some (ab a)/\W.cell? ⟨h,1,none⟩=some (ab b)):=by
  intro W s;have C:=(s.block h x.2.1).trans ax;exact⟨((s.cell (p:=⟨wp.b,wp.o,none⟩) x.2.2.1).trans (HB.cell (p:=⟨wp.b,wp.o,none⟩) aW)).trans aB,ag C 0,ag C 1⟩
 have an:Hid (aj wr wr.drew):=(ao _ _).drew;have al:Hid (∀W,aj wr W->aj w W):=λW s=>HB.trans (s.mono HB.size);have aQ:=ar _ (al _ an);obtain⟨aE,aF,aG⟩:=Q.out wr (ao _ _);clear u S T ay aV aB;go_region_held3 (λW=>W.cell? ⟨wp.b,wp.o,none⟩=some (.map (some i))/\W.cell? ⟨h,0,none⟩=some (ab a)/\W.cell? ⟨h,1,none⟩=some (ab b)) (first|(go_keep;done)|exact Q _ an) (fail);obtain⟨U,V,X,Y⟩:=aM;have B:=aq HB;replace U:=(B _ _ M).trans U;replace V:=(B _ _ M).trans V;replace X:=(B _ _ M).trans X;replace Y:=(B _ _ M).trans Y;clear B;rcases aP with⟨rfl,O⟩|⟨a1,a2,O,aL⟩
 case' inl=>simp only[cX]at ar
 case' inr=>
  have a7:¬((m:Int)+1=0):=by omega
  have a8:¬((m:Int)+1=1):=by omega
  have a9:(0:Int)<(m:Int)+1:=by omega
 all_goals
  have az:Hid (∃j q,(j=(wr.alloc (.cells #[ab y0,ab y1,af ys,ae ya yl yc] 31)).drew/\q=wr.heap.size)/\aj wr j/\j.heap[q]?=some (.cells #[ab y0,ab y1,af ys,ae ya yl yc] 31)/\q<j.heap.size/\wr.heap.size<=q):=⟨_,_,⟨rfl,rfl⟩,(show Below _ _ _ by go_grown),aA wr _,by simp[World.drew],am _⟩;go_wp2_with fail;obtain⟨j,q,⟨aD,aC⟩,n⟩:=az.out;rw[<-aD,<-aC];replace n:=ap n;clear aD aC az aE aF aG aQ U V X Y;have ai:=ap (al _ n.1);have y:Hid (∀W:World,(∀b,b<j.heap.size->b≠i->b≠g->W.heap[b]?=j.heap[b]?)->(W.cell? ⟨wp.b,wp.o,none⟩=some (.map (some i))/\W.cell? ⟨h,0,none⟩=some (ab a)/\W.cell? ⟨h,1,none⟩=some (ab b))/\(W.cell? ⟨q,0,none⟩=some (ab y0)/\W.cell? ⟨q,1,none⟩=some (ab y1)/\W.cell? ⟨q,2,none⟩=some (af ys)/\W.cell? ⟨q,3,none⟩=some (ae ya yl yc))/\(W.heap[f]?=some (.cells #[ab 0,ab 0,af ⟨#[]⟩,ae none 0 0] 31))):=by
   intro W s;obtain⟨aX,aY,ba,bb,bc,bd⟩:=x.out;have a5:=n.1.size;have a4:=n.2.2.2;have C:=(s h (by omega) (by omega) (by omega)).trans ((n.1.block h aY).trans ax);have aN:=(s f (by omega) (by omega) (by omega)).trans ((n.1.block f aX).trans aK);have I:=(s q n.2.2.1 (by omega) (by omega)).trans n.2.1;have aO:=s wp.b (by omega) aT aS;refine⟨⟨?_,ag C 0,ag C 1⟩,⟨ag I 0,ag I 1,ag I 2,ag I 3⟩,aN⟩;have J:=(Q j n.1).1;simp only[World.cell?,aO]at J ⊢;exact J
  have aI:Hid (aj j j.drew):=(ao _ _).drew;have N:=ap (ai.trans (aI.mono ai.size));obtain⟨⟨aE,aF,aG⟩,_,_⟩:=y.out j (λ_ _ _ _=>rfl);have au:=ap (y j.drew (λ_ _ _ _=>rfl)).1
 ·go_region_held3 (λW=>W.cell? ⟨wp.b,wp.o,none⟩=some (.map (some i))/\W.cell? ⟨h,0,none⟩=some (ab a)/\W.cell? ⟨h,1,none⟩=some (ab b)) (first|(go_keep;done)|exact au|exact aJ.1|exact z.1)
    ((first|(go_at_call 84;refine(O _ N).mono ?_;rintro e aZ ⟨rfl,A⟩;obtain⟨d,a6,E,D⟩:=aL _ _ A.2 N A.1;have aJ:=ap (y aZ (λb t K L=>A.1.block b t (λe=>L (aw e))));have z:=ap (y d (λb t K L=>(E.block b (aR t A.1.size) K).trans (A.1.block b t (λe=>L (aw e)))));have P:=ap D;clear E D)))
  obtain⟨_,⟨t0,t1,t2,t3⟩,k⟩:=z.out;have Z:d.cell? ⟨f,0,none⟩=some (ab 0):=ag k 0;have aa:d.cell? ⟨f,1,none⟩=some (ab 0):=ag k 1;have ad:d.cell? ⟨f,2,none⟩=some (af ⟨#[]⟩):=ag k 2;have ah:d.cell? ⟨f,3,none⟩=some (ae none 0 0):=ag k 3;have l:∀F,d.frozen? ⟨f,F,none⟩=false:=λF=>by simp[World.frozen?,k]
  have f0:=l 0;have f1:=l 1;have f2:=l 2;have f3:=l 3;have r:=ap x.2.2.2.1;clear l k;go_wp2_with fail;refine av (v:=.tuple #[.agg #[ab y0,ab y1,af ys,ae ya yl yc],ab 0]) (by simp[results,results50,go_sem,Z,aa,ad,ah]) rfl ⟨rfl,?_⟩;exact P.out _ (((((ao w.heap.size d).setCell r.out _).setCell r.out _).setCell r.out _).setCell r.out _)
 ·obtain⟨d,a0,E,aU,D⟩:∃d,(∀ty,(Builtin.delete_ #[51,44] ty #[.map (some i),.agg #[ab a,ab b]]).run Tryz.prog j.drew=.ok (.tuple #[]) d)/\bt (λb=>b=i) j.drew d/\d.heap.size=j.drew.heap.size/\∀w2,Below w.heap.size d w2->G w2:=O _ N;have z:=ap (y d (λb t K L=>E.block b t K));have P:=ap D;clear E aU D;go_region_held3 (λW=>W.cell? ⟨wp.b,wp.o,none⟩=some (.map (some i))/\W.cell? ⟨h,0,none⟩=some (ab a)/\W.cell? ⟨h,1,none⟩=some (ab b)) (first|(go_keep;done)|exact au|exact z.1) (fail);obtain⟨_,⟨t0,t1,t2,t3⟩,k⟩:=z;have Z:d.cell? ⟨f,0,none⟩=some (ab 0):=ag k 0;have aa:d.cell? ⟨f,1,none⟩=some (ab 0):=ag k 1;have ad:d.cell? ⟨f,2,none⟩=some (af ⟨#[]⟩):=ag k 2;have ah:d.cell? ⟨f,3,none⟩=some (ae none 0 0):=ag k 3;have l:∀F,d.frozen? ⟨f,F,none⟩=false:=λF=>by simp[World.frozen?,k]
  have f0:=l 0;have f1:=l 1;have f2:=l 2;have f3:=l 3;have r:=ap x.2.2.2.1;clear l k;go_wp2_with fail;refine av (v:=.tuple #[.agg #[ab y0,ab y1,af ys,ae ya yl yc],ab 0]) (by simp[results,results50,go_sem,Z,aa,ad,ah]) rfl ⟨rfl,?_⟩;exact P.out _ (((((ao w.heap.size d).setCell r.out _).setCell r.out _).setCell r.out _).setCell r.out _)
variable {base n N:Nat} {wp:BL} {mo:Option Nat} {f:Int×Int->List (Tm (N+1))} {sl:Int×Int->Value} {w:World}
def lU(base:Nat)(wp:BL)(mo:Option Nat)(n N:Nat)(f:Int×Int->List (Tm (N+1)))(sl:Int×Int->Value)(k:Int×Int)(l:List (Tm (N+1)))(w w':World):Prop:=
 ∃a,g9 base wp mo (n+1) (N+1) (iI f k l) a w'/\bt (rX wp mo sl) w w'/\∀b,rX wp mo a b->rX wp mo sl b
theorem lU.later{k:Int×Int}{l:List (Tm (N+1))}{w' w2:World}(h:g9 base wp mo n (N+1) f sl w)(g:lU base wp mo n N f sl k l w w')(a:Below w.heap.size w' w2):lU base wp mo n N f sl k l w w2:=by
 obtain⟨o,i,j,d⟩:=g;have e:bt (λb=>w.heap.size<=b) w' w2:=⟨a.os,a.tape,a.output,a.size,λb _ c=>a.block b (by omega)⟩;refine⟨o,i.kee e λb c m=>?_,bt.trans j e λb c m=>?_,d⟩
 ·have:=(h.lt b (d b c)).2;omega
 ·omega
theorem Hm{base g c L:Nat}{y:Tm (N+1)}{l:List (Tm (N+1))}(b:w.ownsRow base 31 4 (ae (some ⟨g,0,none⟩) L c) L (dp (N+1) (y::l))):w.cell? ⟨g,0,none⟩=some (ab y.1.1)/\w.cell? ⟨g,1,none⟩=some (ab y.1.2.1)/\w.cell? ⟨g,2,none⟩=some (af y.1.2.2)/\w.cell? ⟨g,3,none⟩=some (ae y.2.1.1 y.2.2.length y.2.1.2):=by
 have a:=DO (l:=(y::l).map (gj (N+1))) b 0 (gj (N+1) y) (by simp);simp only[Nat.zero_mul,cX]at a;exact a
theorem KU(d:g9 base wp mo n (N+1) f sl w){a b:Int}(m:I2 (a,b))(ar:n<999999)(V:(f (a,b)).length<=1000):ak 50 #[.pointer (some ⟨wp.b,wp.o,none⟩),ab a,ab b] w λe w'=> (f (a,b)=[]->e=.returned (.tuple #[.agg #[ab 0,ab 0,af ⟨#[]⟩,ae none 0 0],ab 4])/\aj w w')/\ ∀y l,f (a,b)=y::l->e=.returned (.tuple #[dq (N+1) y,ab 0])/\lU base wp mo n N f sl (a,b) l w w':=by
 have r:=d.lt wp.b (ah rfl);have z:∀i,aj w i->(Instr.lookup 51 (.map mo) (.agg #[ab a,ab b]) false).run Tryz.prog i=.ok (sl (a,b)) i:=λi g=>(d.later g).look m;cases k:f (a,b)with
 | nil=>
  have t:sl (a,b)=ae none 0 0:=by
   rcases d.2.2 with⟨_,_,rfl⟩|⟨h,rfl,s⟩
   ·rfl
   ·obtain⟨Q,R,G,H⟩:=s.map;have ad:has Q (kl (a,b))=false:=by
     cases hh:has Q (kl (a,b))
     ·rfl
     ·obtain⟨u,x,Z,T⟩:=(H _).1 hh;rw[<-lW m x Z]at T;exact absurd k T
    have:=G (a,b) m;rw[atKey_of_not_has ad]at this;injection this with this;exact this.symm
  rw[t]at z;refine(Ia wp mo a b w r.2 d.cell.1 z).mono ?_;rintro e w' ⟨rfl,c⟩;exact⟨λ_=>⟨rfl,c⟩,λy l e=>by cases e⟩
 | cons y l=>
  rcases d.2.2 with⟨_,rfl,_⟩|⟨h,rfl,s⟩
  ·cases k
  ·obtain⟨sa,sc,t,A⟩:=(s.row (a,b) m).at;rw[k]at t A V;have W:=s.lt h (ah rfl);obtain⟨j,rfl⟩:∃j,sa=some ⟨j,0,none⟩:=by
    rcases A.2 with⟨e,_⟩|⟨j,cap,aq,e,_⟩
    ·simp at e
    ·simp at e;exact⟨j,e.1⟩
   have U:=A.lt j rfl;have O:wp.b≠j:=λe=>Aj d m (by rw[t,e];rfl);have Y:=Hm A;rw[t]at z;cases hl0:l with
   | nil=>
    subst hl0;refine(yg wp h j sc 0 y.1.1 y.1.2.1 y.1.2.2 y.2.1.1 y.2.2.length y.2.1.2 a b w (λw'=>lU base wp (some h) n N f sl (a,b) [] w w') (λ_ _=>True) r.2 U.2 W.2 (wu d) O d.cell.1 z Y (ah ⟨rfl,λi g=>?_⟩)).mono ?_
    ·have I:GM base h n (N+1) f sl i:=s.kee (aK g λ_=>False) λ_ _ k=>k;obtain⟨v,P,J,p,X⟩:=I.drop m 3;have ag:∀ty,(Builtin.delete_ #[51,44] ty #[.map (some h),.agg #[ab a,ab b]]).run Tryz.prog i=.ok (.tuple #[]) v:=λty=>P;refine⟨v,ag,p,X,λao K=>?_⟩;have q:lU base wp (some h) n N f sl (a,b) [] w v:=by
      refine⟨_,⟨d.1,(d.2.1.kept (g.block wp.b r.2)).kept (p.block wp.b (aR r.2 g.size) (wu d)),ai ⟨h,rfl,J.mono (fS n)⟩⟩,bt.trans (aK g _) p λC _ e=>ai (ah (by rw[e])),λC c=>?_⟩;rcases c with c|c|⟨u,x,c⟩
      ·exact ah c
      ·exact ai (ah c)
      ·by_cases e:u=(a,b)
       ·rw[e,cO]at c;simp[mC,Value.ownBlock]at c
       ·rw[bS _ _ e]at c;exact ai (ai ⟨u,x,c⟩)
     exact lU.later d q K
    ·rintro e w' ⟨rfl,q⟩;refine⟨λe=>(by cases e),λap an e=>?_⟩;injection e with E F;subst E F;exact⟨rfl,q⟩
   | cons y2 av=>
    rw[<-hl0];have M:l≠[]:=by rw[hl0];simp
    have aa:1<=l.length:=List.length_pos_iff.2 M;refine(yg wp h j sc l.length y.1.1 y.1.2.1 y.1.2.2 y.2.1.1 y.2.2.length y.2.1.2 a b w (λw'=>lU base wp (some h) n N f sl (a,b) l w w') (λi w'=>nV base (N+1) (ae (some ⟨j,0,none⟩) l.length sc) l w'/\w'.heap.size=i.heap.size) r.2 U.2 W.2 (wu d) O d.cell.1 z Y (ai ⟨aa,by simp at V;omega,λi g=>?_,λi D S g L=>?_⟩)).mono ?_
    ·refine(C6 base j sc l.length y l i rfl (bk A (aK g λ_=>False) λ_ _ k=>k) M).mono ?_;rintro e w' ⟨rfl,R,G,H⟩;exact⟨rfl,G,R,H⟩
    ·have I:GM base h n (N+1) f sl i:=s.kee (aK g λ_=>False) λ_ _ k=>k;have B:(sl (a,b)).ownBlock=some j:=by rw[t];rfl
     obtain⟨v,P,J,p,X⟩:=I.store m (w1:=D) ((eu L).mono λb _ e=>B.trans e) M S.1 (λb c=>ah (B.trans c)) (by omega);refine⟨v,P,p,λao K=>?_⟩;have am:bt (rX wp (some h) sl) w D:=bt.trans (aK g _) (eu L) λC _ e=>ai (ai ⟨(a,b),m,B.trans e⟩);have al:D.heap[wp.b]?=w.heap[wp.b]? :=(L.block wp.b (aR r.2 g.size) (λe=>O (aw e))).trans (g.block wp.b r.2);have au:=g.size;have q:lU base wp (some h) n N f sl (a,b) l w v:=by
      refine⟨_,⟨d.1,(d.2.1.kept al).kept (p.block wp.b (by rw[S.2];omega) (wu d)),ai ⟨h,rfl,J⟩⟩,bt.trans am p λC _ e=>ai (ah (by rw[e])),λC c=>?_⟩;rcases c with c|c|⟨u,x,c⟩
      ·exact ah c
      ·exact ai (ah c)
      ·by_cases e:u=(a,b)
       ·rw[e,cO]at c;exact ai (ai ⟨(a,b),m,B.trans c⟩)
       ·rw[bS _ _ e]at c;exact ai (ai ⟨u,x,c⟩)
     exact lU.later d q K
    ·rintro e w' ⟨rfl,q⟩;refine⟨λe=>(by cases e),λap an e=>?_⟩;injection e with E F;subst E F;exact⟨rfl,q⟩
end Go.Proofs.YtmmahddlcldmiaaGreat
