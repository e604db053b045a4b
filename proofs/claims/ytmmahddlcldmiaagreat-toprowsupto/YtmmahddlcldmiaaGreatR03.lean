/- Proved here: plain facts and contracts. No condition but what each names. -/
import Derived.Test.YtmmahddlcldmiaaGreatR01
import Derived.Test.YtmmahddlcldmiaaGreatR02
import Derived.Lib.SliceRun
import Derived.Deep.RegionLaw
import Derived.Laws.CopyRow
import Derived.Maps.RangeWalk
import Derived.WideKeyPair
import Derived.WideKeyEntry
import Derived.OrdersHeld
import Derived.Maps.OwnSet
namespace Go.Proofs.YtmmahddlcldmiaaGreat
open Go.RowKit Go.Proofs.Tryz
open Go.RowKit Go.Maps
set_option maxHeartbeats 4000000
set_option maxRecDepth 100000
theorem en(s:ap)(w:ag)(b:s.size<=2048):ao 63 #[af s] w λe w'=>e=.returned (af s)/\am w w':=by
 go_enter func63,ntmps63;go_wp2_with (go_at_call 98;refine(Tryz.stringslite_Clone s w (by omega)).mono ?_;rintro e w' ⟨rfl,a⟩)
 go_ret
 exact⟨rfl,a⟩
theorem l6(a:au)(pc:Nat)(w:ag):ao 89 #[ae a 0 pc] w λe w'=>e=.returned (ae none 0 0)/\w'=w:=by
 go_enter func89,ntmps89;go_wp2_with fail
 go_ret
 exact⟨rfl,rfl⟩
theorem rH(n:Nat)(p:List (Tm n))(len:Nat){w w1:ag}(a:w1.ownsRow w.heap.size 31 4 (ae (some ⟨w.heap.size,0,none⟩) len len) len (madeCells (Value.agg #[ab 0,ab 0,af .empty,ae none 0 0]).cells (len*4)).toList):uP n p len w.heap.size 0 [] w1:=by
 refine⟨rfl,?_,(λd c=>by cases c),rfl⟩;have b:(madeCells (Value.agg #[ab 0,ab 0,af .empty,ae none 0 0]).cells (len*4)).toList=gn (List.replicate len zA):=Ib len;rw[b]at a;unfold nG;simpa using a
theorem zG(n:Nat)(ih:Qy n)(p:List (Tm n))(len:Nat)(M:Hid (p.length=len))(q po pc:Nat)(B:Nat)(w:ag)(ar:0<len)(az:len<=1048576)(X:q<B)(t:∀(i:Nat)(y:Tm n),p[i]?=some y->dC w q (po+i*4) n y/\In B w n y)(N:∀y∈p,aJ ⟨n,y⟩)(G:B<=w.heap.size):ao 89 #[ae (some ⟨q,po,none⟩) len pc] w λe w'=>∃l,e=.returned (ae (some ⟨w.heap.size,0,none⟩) len len)/\Hid (ie n p w w' (some ⟨w.heap.size,0,none⟩) len l):=by
 obtain⟨Y,I,O,P,Q⟩:=bU gJ;have ay:((len:Int)==0)=false:=by simp;omega
 go_enter func89,ntmps89;go_wp2_with (at_make;refine lu _ rfl _ _ 29 rfl w.heap.size 31 Y _ 4 underlying29 I O P _ _ _ _ len rfl rfl rfl rfl (by rw[Q];omega) (by unfold maxLen;omega) (av _) ?_;intro aa L d);have E:=aq (rH n p len L);have z:Hid (am w aa):=⟨d.os,d.tape,d.output,d.size,λk J=>d.block k J (by simp)⟩;clear L d I O P Q;go_wp2_with fail;go_loopw [14] (λi wr=>∃k:Nat,k<=len/\i=ab k/\Hid (am w wr/\∃l,uP n p len w.heap.size k l wr)) (λi _=>len-(intOf i).toNat)
 case atStart=>exact⟨0,by omega,rfl,z,[],E⟩
 case round=>
  obtain⟨k,J,rfl,C⟩:=hrel;obtain⟨f,l,c⟩:Hid (am w wr)/\∃l,Hid (uP n p len w.heap.size k l wr):=C.out;clear C;by_cases K:k<len
  ·obtain⟨x,j⟩:∃x,p[k]?=some x:=⟨p[k]'(by rw[M.out];exact K),aN _⟩;obtain⟨m,o⟩:=t k x j;have V:=aq j;have D:=aq (N x (aL j));replace m:=m.below (f.mono G) X;replace o:=o.below (f.mono G);have W:w.heap.size<wr.heap.size:=c.2.1.lt.2;have H:B<=wr.heap.size:=by omega
   clear t j N E z;cases n with
   | zero=>exact m.elim
   | succ n=>
   obtain⟨ad,ah,ai,aj⟩:=m
   have A:Hid (∀(a:ag),am wr a->ao 56 #[.agg #[ab x.1.1,ab x.1.2.1,af x.1.2.2,ae x.2.1.1 x.2.2.length x.2.1.2]] a λe w'=>∃y:Tm (n+1),e=.returned (dB (n+1) y)/\Hid (am a w'/\In w'.heap.size w' (n+1) y/\cv (λr=>a.heap.size<=r) (n+1) y/\aB (n+1) y (n+1) x=true)):=
    λa b=>ih x B a (o.below (b.mono H)) (aF H b.size) D
   clear ih o D;generalize x.2.2.length=aC at*;have aw:(0:Int)<=(k:Int):=by omega
   have ax:(k:Int)<(len:Int):=by omega
   have aA:q<wr.heap.size:=by omega
   go_wp2_with fail;refine(A _ (aS _ _)).mono ?_;rintro e a ⟨y,rfl,g⟩;have h:Hid (am wr a):=(aS _ _).trans (g.1.mono (by simp));have U:=aq (c.step K x V h y g.2.1 (g.2.2.1.mono λr u=>by simp at u;omega) g.2.2.2);have s:=aq (c.2.1.below h);have S:Hid (am w (jO a w.heap.size (k*4) (gF (n+1) y))):=by
    have b:=f.trans (h.mono (Nat.le_of_lt W));exact⟨b.os,b.tape,b.output,aF b.size (dO (bD _ _ _ _).symm),λr u=>(bk (by omega) _ _ _ _).trans (b.block r u)⟩
   obtain⟨v,R⟩:∃v,(l.map (λx=>(⟨n+1,x⟩:An))++List.replicate (len-k) zA)[k]?=some v:=⟨_,aN (by simp[c.out.1];omega)⟩;obtain⟨ak,al,an,ap⟩:=s.out.cells k v R;have au:=λZ=>s.free Z;have F:dB (n+1) y=.agg #[ab y.1.1,ab y.1.2.1,af y.1.2.2,ae y.2.1.1 y.2.2.length y.2.1.2]:=rfl;rw[F];clear A c f g h s ad ah ai aj R F;go_wp2_with fail;go_roundw
   case rel=>exact⟨k+1,by omega,by go_num,S,l++ [y],U⟩
   case measure=>simp[intOf];omega
  ·have T:=aq (c.done M (by omega) f (by unfold maxLen;omega));clear c t;go_wp2_with fail
   go_ret
   exact⟨l,rfl,T⟩
def Qx(n:Nat):Prop:=∀(p:List (Tm n))(a:au)(pc B:Nat)(w:ag),(p=[]\/∃b o,a=some ⟨b,o,none⟩/\b<B/\∀(i:Nat)(y:Tm n),p[i]?=some y->dC w b (o+i*4) n y/\In B w n y)->p.length<=1048576->(∀y∈p,aJ ⟨n,y⟩)->B<=w.heap.size->
 ao 89 #[ae a p.length pc] w λe w'=>∃c d l,e=.returned (ae c p.length d)/\Hid (ie n p w w' c d l)
theorem tC(n:Nat)(ih:Qy n):Qx n:=by
 intro c i pc g d a p q k;rcases a with a|⟨b,o,rfl,m,a⟩
 ·subst a;refine(l6 i pc d).mono ?_;rintro e f ⟨rfl,rfl⟩;exact⟨none,0,[],rfl,aA _ _,rfl,av _,aM _,rfl,aj rfl⟩
 ·by_cases j:c.length=0
  ·have:c=[]:=bI j;subst this;refine(l6 _ pc d).mono ?_;rintro e f ⟨rfl,rfl⟩;exact⟨none,0,[],rfl,aA _ _,rfl,av _,aM _,rfl,aj rfl⟩
  ·refine(zG n ih c c.length rfl b o pc g d (by omega) p m a q k).mono ?_;rintro e f ⟨l,rfl,h⟩;exact⟨_,_,l,rfl,h⟩
theorem GF{w w1:ag}{a b:Obj}(c:Below ((w.alloc a).alloc b).drew.heap.size ((w.alloc a).alloc b).drew w1):am w w1/\w.heap.size<w1.heap.size/\w.heap.size+1<w1.heap.size:=by
 have d:am w ((w.alloc a).alloc b).drew:=((aS _ _).alloc (by simp) _).drew;have f:=c.size;have e:((w.alloc a).alloc b).drew.heap.size=w.heap.size+2:=by simp[World.drew]
 exact⟨d.trans (c.mono d.size),by omega,by omega⟩
theorem g8{B:Nat}{w w1:ag}(a:Below B w w1):∀b o,b<B->w1.frozen? ⟨b,o,none⟩=w.frozen? ⟨b,o,none⟩:=λb o c=>a.frozen (p:=⟨b,o,none⟩) c
theorem Jq{w w':ag}{v0 v1 v2 v3 e f g h:ar}{t i:TypeId}(d:Below ((w.alloc (.cells #[v0,v1,v2,v3] t)).alloc (.cells #[e,f,g,h] i)).drew.heap.size ((w.alloc (.cells #[v0,v1,v2,v3] t)).alloc (.cells #[e,f,g,h] i)).drew w'):(ah w' w.heap.size 0 v0/\ah w' w.heap.size 1 v1/\ah w' w.heap.size 2 v2/\ah w' w.heap.size 3 v3)/\ w'.cell? ⟨w.heap.size+1,0,none⟩=some e/\w'.cell? ⟨w.heap.size+1,1,none⟩=some f/\w'.cell? ⟨w.heap.size+1,2,none⟩=some g/\w'.cell? ⟨w.heap.size+1,3,none⟩=some h/\ w'.frozen? ⟨w.heap.size+1,0,none⟩=false/\w'.frozen? ⟨w.heap.size+1,1,none⟩=false/\w'.frozen? ⟨w.heap.size+1,2,none⟩=false/\w'.frozen? ⟨w.heap.size+1,3,none⟩=false:=by
 have a:=λo=>d.cell (p:=⟨w.heap.size,o,none⟩) (by simp[World.drew];try omega);have b:=λo=>d.cell (p:=⟨w.heap.size+1,o,none⟩) (by simp[World.drew];try omega);have c:=λo=>d.frozen (p:=⟨w.heap.size+1,o,none⟩) (by simp[World.drew];try omega);exact⟨⟨(a 0).trans (by simp[go_sem]),(a 1).trans (by simp[go_sem]),(a 2).trans (by simp[go_sem]),(a 3).trans (by simp[go_sem])⟩,(b 0).trans (by simp[go_sem]),(b 1).trans (by simp[go_sem]),(b 2).trans (by simp[go_sem]),(b 3).trans (by simp[go_sem]),(c 0).trans (by simp[go_sem]),(c 1).trans (by simp[go_sem]),(c 2).trans (by simp[go_sem]),(c 3).trans (by simp[go_sem])⟩
theorem DD{w1 w2:ag}{q:Nat}{e f g h:ar}(a:q<w1.heap.size)(d:am w1 w2)(k:ah w1 q 0 e/\ah w1 q 1 f/\ah w1 q 2 g/\ah w1 q 3 h/\ w1.frozen? ⟨q,0,none⟩=false/\w1.frozen? ⟨q,1,none⟩=false/\w1.frozen? ⟨q,2,none⟩=false/\w1.frozen? ⟨q,3,none⟩=false):ah w2 q 0 e/\ah w2 q 1 f/\ah w2 q 2 g/\ah w2 q 3 h/\ w2.frozen? ⟨q,0,none⟩=false/\w2.frozen? ⟨q,1,none⟩=false/\w2.frozen? ⟨q,2,none⟩=false/\w2.frozen? ⟨q,3,none⟩=false:=by
 obtain⟨i,j,l,m,d0,d1,d2,d3⟩:=k;have b:=aw d;have c:=g8 d;exact⟨(b _ _ a).trans i,(b _ _ a).trans j,(b _ _ a).trans l,(b _ _ a).trans m,(c _ _ a).trans d0,(c _ _ a).trans d1,(c _ _ a).trans d2,(c _ _ a).trans d3⟩
theorem ie.box{n:Nat}{p:List (Tm n)}{w w1 w2:ag}{a:au}{c:Nat}{l:List (Tm n)}(r:ie n p w1 w2 a c l)(h:am w w1)(f:w.heap.size+1<w1.heap.size)(v0 v1 v2 v3:ar):ie n p w (cZ w2 (w.heap.size+1) 0 v0 v1 v2 v3) a c l:=by
 obtain⟨s,t,u,v,x,d⟩:=r;have e:=h.trans (s.mono h.size);have F:=h.size;refine⟨⟨e.os,e.tape,e.output,aF e.size (dO (bD _ _ _ _).symm),λj f=>(bk (by omega) _ _ _ _).trans (e.block j f)⟩,t,u,v,x,?_⟩;rcases d with d|⟨b,o,q,i,y,d⟩
 ·exact aj d
 ·refine ak ⟨b,o,q,⟨by omega,i.2.1,λB=>?_,i.2.2.2⟩,by rw[bD];exact y,λA E z=>?_⟩
  ·have k:=i.2.2.1 B;unfold World.frozen? at k ⊢;rw[bk (w:=w2) (g:=w.heap.size+1) (b:=b) (o:=0) (by omega) v0 v1 v2 v3];exact k
  obtain⟨C,D,m⟩:=d A E z;refine⟨C.block (bk (by omega) _ _ _ _),?_,m.mono λj f=>by omega⟩;rw[bD];exact In.off (λj f=>bk (by omega) _ _ _ _) m D
theorem mR(x:Nd)(a:cN x=true):x.2.2.1<=8:=by
 by_cases b:x.1.1=4
 ·simp[cN,b]at a;omega
 ·have:=(eV x a).2.2.2.2 b;omega
theorem sV(x:Nd)(a:cN x=true):x.1.2.2.size<=8:=by
 by_cases c:x.1.1=2
 ·simp[cN,c,ei,rh]at a;omega
 ·have b:=(eV x a).1 c;have e:x.1.2.2.data.toList=[]:=by rw[cF]at b;exact b
  have:x.1.2.2.size=0:=by
   have d:x.1.2.2.size=x.1.2.2.data.toList.length:=by rw[iM];rfl
   rw[d,e];rfl
  omega
theorem sR(n:Nat)(k g:Int)(s:ap)(a:au)(len pc:Nat)(p:List (Tm n))(w:ag)(F:s.size<=2048)(m:Hid (∀w1,am w w1->ao 89 #[ae a len pc] w1 λe w'=>∃b c l,e=.returned (ae b len c)/\Hid (ie n p w1 w' b c l))):ao 56 #[.agg #[ab k,ab g,af s,ae a len pc]] w λe w'=>∃b c l,e=.returned (.agg #[ab k,ab g,af s,ae b len c])/\Hid (ie n p w w' b c l):=by
 go_enter func56,ntmps56;go_wp2_with fail;go_region_held3 (λw'=>ah w' w.heap.size 0 (ab k)/\ah w' w.heap.size 1 (ab g)/\ah w' w.heap.size 2 (af s)/\ah w' w.heap.size 3 (ae a len pc)) (go_keep) ((first|(go_at_call 63;refine(en s _ F).mono ?_;rintro e w1 ⟨rfl,i⟩;have f:=aq (GF i);have d:=aq (Jq i);have q:=d.1.1;have r:=d.1.2.1;have t:=d.1.2.2.1;have u:=d.1.2.2.2;clear i)|(go_at_call 89;refine(m _ f.1).mono ?_;rintro e G ⟨b,c,l,rfl,h⟩;have j:=aq (DD f.2.2 h.1 d.2);obtain⟨B,C,D,E,d0,d1,d2,d3⟩:=j.out;obtain⟨x,y,z,A⟩:=oA f.2.1 h.1 d.1)));have o:=aq (h.box f.1 f.2.2 (ab k) (ab g) (af s) (ae b len c));clear h f d j q r t u x y z A;go_wp2_with fail;exact ay (v:=.agg #[ab k,ab g,af s,ae b len c]) (by simp[results,results56,go_sem,B,C,D,E]) rfl ⟨b,c,l,rfl,o⟩
theorem iG(n:Nat):Qy n:=by
 induction n with
 | zero=>intro x k t j;exact j.elim
 | succ n ih=>
  intro x k t j i s;have E:=j;obtain⟨⟨G,H,D,K,J⟩,g⟩:=E;have r:=s (bL n x) (by simp[aC,bL]);have I:x.2.2.length<=8:=mR (bL n x) r;have C:x.1.2.2.size<=2048:=by have:=sV (bL n x) r;simp only[bL]at this;omega
  refine(sR n x.1.1 x.1.2.1 x.1.2.2 x.2.1.1 x.2.2.length x.2.1.2 x.2.2 t C ?_).mono ?_
  ·intro F h;refine tC n ih x.2.2 x.2.1.1 x.2.1.2 k F ?_ (by omega) (λd c=>bi n x d s c) (aF i h.size);rcases g with g|⟨b,o,f,m,g⟩
   ·exact aj g
   ·exact ak ⟨b,o,f,m,λe d c=>⟨(g e d c).1.below (h.mono i) m,(g e d c).2.below (h.mono i)⟩⟩
  ·rintro f L ⟨v,w,l,rfl,u⟩;obtain⟨h,y,z,A,B,a⟩:=u;refine⟨(x.1,(v,w),l),by rw[<-y];rfl,h,⟨⟨G,H,D,z,A⟩,?_⟩,?_,?_⟩
   ·rcases a with a|⟨b,o,f,p,q,a⟩
    ·exact aj a
    ·exact ak ⟨b,o,f,q,λe d c=>⟨(a e d c).1,(a e d c).2.1⟩⟩
   ·rcases a with a|⟨b,o,f,p,q,a⟩
    ·exact aj a
    ·exact ak ⟨b,o,f,p.1,λe d c=>(a e d c).2.2⟩
   ·simp only[aB];simp[B]
def qp:ap:=⟨#[115,101,108,102]⟩
def xd:ap:=⟨#[97,100,100]⟩
def Df:ap:=⟨#[112,117,116]⟩
def pY(N:Nat)(x:Tm N):Int:=(gF N x).1.2.1
def uC(n:Nat)(p:List (Tm n))(s:ap)(k:Nat):Bool:=
 decide (p.length=1+k) && match p[0]? with
  | some a=>b8 ⟨n,a⟩==2 && (gF n a).1.2.2.toList==s.toList
  | none=>false
def cV{c β:Type}(f:c->Option β):List c->Option (List β)
 | []=>some []
 | a::p=>(f a).bind λb=>(cV f p).map λl=>b::l
def bW(k a:Int)(N:Nat):Tm (N+1):=((k,a,.empty),(none,0),[])
def AE(N:Nat)(a c:Tm N):Bool:=b8 ⟨N,a⟩==1 && b8 ⟨N,c⟩==1 && rh (pY N a+pY N c) (-1099511627776) 1099511627776
def ut(N:Nat)(a c:Tm N):Option (Tm (N+1)):=if AE N a c then some (bW 1 (pY N a+pY N c) N)else none
def dr(N:Nat)(l:List (Tm N)):Tm (N+1):=((4,0,.empty),(none,0),l)
def vl(m:Nat)(b:List (Tm m))(self:Int):(n:Nat)->Tm n->Option (Tm (m+n))
 | 0,_=>none
 | n+1,x=>
  if x.1.1=5 then (b[x.1.2.1.toNat]?).bind λy=>if b8 ⟨m,y⟩=6 then none else some (aZ (m+n+1) m y)
  else if x.1.1=6 then none
  else if x.1.1=4 then
   if uC n x.2.2 qp 0 then some (bW 3 self (m+n))
   else if uC n x.2.2 xd 2 then
    (x.2.2[1]?).bind λa=>(x.2.2[2]?).bind λc=>(vl m b self n a).bind λa=>(vl m b self n c).bind λc=>ut (m+n) a c
   else if uC n x.2.2 Df 1 then
    (x.2.2[1]?).bind λa=>if aT n a then some (aZ (m+n+1) n a)else none
   else (cV (λy=>vl m b self n y) x.2.2).map (dr (m+n))
  else some (aZ (m+n+1) (n+1) x)
theorem rz{e β:Type}(f:e->Option β):(p:List e)->(l:List β)->cV f p=some l->l.length=p.length/\∀(i:Nat)(a:e)(y:β),p[i]?=some a->l[i]?=some y->f a=some y
 | [],l,b=>by simp[cV]at b;subst b;exact⟨rfl,λi a y c=>by simp at c⟩
 | a::p,l,b=>by
  simp only[cV]at b;obtain⟨y,m,b⟩:=bF.1 b;obtain⟨r,k,rfl⟩:=cD.1 b;obtain⟨h,j⟩:=rz f p r k;refine⟨by simp[h],λi g n c d=>?_⟩;cases i with
  | zero=>
   simp at c d;subst c d;exact m
  | succ i=>exact j i g n (by simpa using c) (by simpa using d)
theorem mK{c β:Type}(f:c->Option β):(p:List c)->(i:Nat)->(a:c)->p[i]?=some a->f a=none->cV f p=none
 | [],i,a,h,_=>by simp at h
 | b::p,0,a,h,k=>by
  simp at h;subst h;simp[cV,k]
 | b::p,i+1,a,h,k=>by
  simp only[cV];rw[mK f p i a (by simpa using h) k];simp
theorem xL{b β:Type}(f:b->Option β)(g:b->β):(p:List b)->(∀a∈p,f a=some (g a))->cV f p=some (p.map g)
 | [],_=>rfl
 | a::p,h=>by simp[cV,h a (by simp),xL f g p λx c=>h x (bT _ c)]
theorem zQ{b β c:Type}(f:b->List c)(g:β->List c)(K:Nat):(p:List b)->(l:List β)->l.length=p.length->(∀(i:Nat)(a:b)(y:β),p[i]?=some a->l[i]?=some y->(g y).length<=K*(f a).length)->(l.flatMap g).length<=K*(p.flatMap f).length
 | [],[],_,_=>by simp
 | [],_::_,h,_=>by simp at h
 | _::_,[],h,_=>by simp at h
 | a::p,y::l,h,k=>by
  have j:=k 0 a y rfl rfl;have m:=zQ f g K p l (by simpa using h) λi a y d e=>k (i+1) a y (by simpa using d) (by simpa using e);simp only[bM,bt];rw[Nat.mul_add];omega
theorem pn:(N n:Nat)->n<=N->(x:Tm n)->(aC N (aZ N n x)).length<=(aC n x).length
 | 0,0,_,_=>av _
 | _+1,0,_,_=>by simp[aZ,aC]
 | 0,n+1,h,_=>by omega
 | N+1,n+1,h,x=>by
  have:=zQ (λy=>aC n y) (λy=>aC N y) 1 x.2.2 (x.2.2.map λy=>aZ N n y) (by simp) λi a y c b=>by
   simp[c]at b;subst b;rw[Nat.one_mul];exact pn N n (by omega) a
  simp only[aC,aZ,bu];omega
theorem vN{a K:Nat}(b:1<=K):a<=K*a:=Nat.le_mul_of_pos_left a b
theorem B4{d e:Type}(f:d->List e)(p:List d)(a:d)(c:a∈p):(f a).length<=(p.flatMap f).length:=by
 induction p with
 | nil=>cases c
 | cons b p ih=>
  simp only[bM,bt];rcases cU.1 c with rfl|c
  ·omega
  ·have:=ih c;omega
theorem Dd(m:Nat)(b:List (Tm m))(self:Int)(K:Nat)(f:1<=K)(q:∀y∈b,(aC m y).length<=K):(n:Nat)->(x:Tm n)->(o:Tm (m+n))->vl m b self n x=some o->(aC (m+n) o).length<=K*(aC n x).length
 | 0,_,_,d=>by simp[vl]at d
 | n+1,x,o,d=>by
  have one:∀k r,(aC (m+n+1) (bW k r (m+n))).length<=K*(aC (n+1) x).length:=λk r=>by
   have:1*1<=K*(aC (n+1) x).length:=Nat.mul_le_mul f (by simp[aC]);simpa [aC,bW]using this
  have up:∀(y:Tm n),y∈x.2.2->K*(aC n y).length<=K*(aC (n+1) x).length:=λy j=>by
   have:=B4 (λy=>aC n y) x.2.2 y j;exact Nat.mul_le_mul_left K (by simp only[aC,bu]at this ⊢;omega)
  simp only[vl]at d;split at d
  ·obtain⟨y,j,d⟩:=bF.1 d;split at d
   ·cases d
   ·obtain rfl:=az d;have e:=pn (m+n+1) m (by omega) y;have g:=q y (aL j);have h:K*1<=K*(aC (n+1) x).length:=Nat.mul_le_mul_left K (by simp[aC]);show (aC (m+n+1) _).length<=_;omega
  ·split at d
   ·cases d
   ·split at d
    ·split at d
     ·obtain rfl:=az d;exact one _ _
     ·split at d
      ·obtain⟨a,p,d⟩:=bF.1 d;obtain⟨c,A,d⟩:=bF.1 d;obtain⟨v,z,d⟩:=bF.1 d;obtain⟨w,B,d⟩:=bF.1 d;unfold ut at d;split at d
       ·obtain rfl:=az d;exact one _ _
       ·cases d
      ·split at d
       ·obtain⟨a,p,d⟩:=bF.1 d;split at d
        ·obtain rfl:=az d;have e:=pn (m+n+1) n (by omega) a;have g:=up a (aL p);have h:=vN (a:=(aC n a).length) f;show (aC (m+n+1) _).length<=_;omega
        ·cases d
       ·obtain⟨l,u,rfl⟩:=cD.1 d;obtain⟨e,g⟩:=rz _ _ _ u;have h:=zQ (λy=>aC n y) (λy=>aC (m+n) y) K x.2.2 l e λi a y s t=>Dd m b self K f q n a y (g i a y s t);show (aC (m+n+1) (dr (m+n) l)).length<=_;simp only[aC,dr,bu];rw[Nat.mul_add];omega
    ·obtain rfl:=az d;have e:=pn (m+n+1) (n+1) (by omega) x;have h:=vN (a:=(aC (n+1) x).length) f;show (aC (m+n+1) _).length<=_;omega
theorem kR:(n:Nat)->(x:Tm n)->(m:Nat)->(y:Tm m)->aB n x m y=true->(aC n x).length=(aC m y).length
 | 0,_,_,_,h=>by simp[aB]at h
 | _+1,_,0,_,h=>by simp[aB]at h
 | n+1,x,m+1,y,h=>by
  obtain⟨f,e⟩:=bN h;have key:∀(p:List (Tm n))(q:List (Tm m)),aG (λa b=>aB n a m b) p q=true->(p.flatMap λy=>aC n y).length=(q.flatMap λy=>aC m y).length:=by
   intro p
   induction p with
   | nil=>intro q d;cases q with
    | nil=>rfl
    | cons _ _=>simp[aG]at d
   | cons a p ih=>intro q d;cases q with
    | nil=>simp[aG]at d
    | cons c q=>
     simp only[aG,aK]at d;simp only[bM,bt];rw[kR n a m c d.1,ih q d.2]
  simp only[aC,bu];rw[key _ _ e]
theorem bJ{n:Nat}{x:Tm n}:bG n x=0 ↔ ci n x=true/\fP n x<=12/\sz n x<=200:=by
 rw[<-gM];unfold xD;constructor
 ·intro a;split at a
  ·rename_i c;split at a
   ·cases a
   ·rename_i f;exact⟨c,by omega,by omega⟩
  ·cases a
 ·rintro ⟨b,d,e⟩;rw[if_pos b,if_neg (by omega)]
theorem F8:(n:Nat)->(x:Tm n)->aJ ⟨n,x⟩->((aC n x).length:Int)<=sz n x+1
 | 0,_,h=>(dv h).elim
 | n+1,x,h=>by
  have c:=eV (bL n x) (h (bL n x) (by simp[aC,bL]));by_cases a:x.1.1=4
  ·have key:∀l:List (Tm n),(∀y∈l,aJ ⟨n,y⟩)->((l.flatMap λy=>aC n y).length:Int)<=(l.map λy=>1+sz n y).sum:=by
     intro l
     induction l with
     | nil=>intro _;simp
     | cons y l ih=>
      intro b;have g:=F8 n y (b y (by simp));have i:=ih λf e=>b f (bT _ e);simp only[bM,bt,aV,bO];omega
   have:=key x.2.2 λy d=>bi n x y h d;simp only[aC,bu,sz,if_pos a];omega
  ·have:x.2.2=[]:=bI (c.2.2.2.2 a);simp[aC,this,sz,a]
theorem oB{n:Nat}{x:Tm n}(a:bG n x=0):(aC n x).length<=201:=by
 obtain⟨b,_,c⟩:=bJ.1 a;have:=F8 n x (aU.2 b);omega
theorem iE{m:Nat}{b:List (Tm m)}(a:gE m b=true):b.length=4/\∀y∈b,bG m y=0/\aJ ⟨m,y⟩/\(b8 ⟨m,y⟩=6\/aT m y=true):=by
 unfold gE at a;simp only[aK,cr,cG]at a;refine⟨a.1,λy c=>?_⟩;have:=a.2 y c;unfold Ch at this;simp only[aK,iO,co]at this;refine⟨this.1,aU.2 (bJ.1 this.1).1,?_⟩;rw[fM];exact this.2
theorem qF{N n:Nat}(e:n<=N)(x:Tm n)(c:aJ ⟨n,x⟩):aJ ⟨N,aZ N n x⟩:=by
 cases n with
 | zero=>exact(dv c).elim
 | succ n=>
  obtain⟨a,rfl⟩:∃a,N=a+1:=⟨N-1,by omega⟩;intro d b;simp only at b;rw[nR a n (by omega) x]at b;exact c d b
theorem wE{N:Nat}{x:Tm (N+1)}(c:cN (bL N x)=true)(k:∀y∈x.2.2,aJ ⟨N,y⟩):aJ ⟨N+1,x⟩:=by
 intro b a;simp only[aC,cU,ip]at a;rcases a with rfl|⟨y,d,a⟩
 ·exact c
 ·exact k y d b a
theorem wY(m:Nat)(b:List (Tm m))(self:Int)(k:1<=self/\self<=99)(i:∀y∈b,aJ ⟨m,y⟩):(n:Nat)->(x:Tm n)->aJ ⟨n,x⟩->(g:Tm (m+n))->vl m b self n x=some g->aJ ⟨m+n,g⟩
 | 0,_,_,_,d=>by simp[vl]at d
 | n+1,x,hr,g,d=>by
  have r:=hr (bL n x) (by simp[aC,bL]);have B:x.2.2.length<=8:=mR (bL n x) r;simp only[vl]at d;split at d
  ·obtain⟨y,e,d⟩:=bF.1 d;split at d
   ·cases d
   ·obtain rfl:=az d;exact qF (N:=m+n+1) (by omega) y (i y (aL e))
  ·split at d
   ·cases d
   ·split at d
    ·split at d
     ·obtain rfl:=az d;exact wE (N:=m+n) (by simp[cN,bW,bL,rh,k]) (by intro y e;cases e)
     ·split at d
      ·obtain⟨a,h,d⟩:=bF.1 d;obtain⟨c,z,d⟩:=bF.1 d;obtain⟨u,w,d⟩:=bF.1 d;obtain⟨v,A,d⟩:=bF.1 d;unfold ut at d;split at d
       ·rename_i o;obtain rfl:=az d;simp only[AE,aK]at o;exact wE (N:=m+n) (by simp[cN,bW,bL,o.2]) (by intro y e;cases e)
       ·cases d
      ·split at d
       ·obtain⟨a,h,d⟩:=bF.1 d;split at d
        ·obtain rfl:=az d;exact qF (N:=m+n+1) (by omega) a (bi n x a hr (aL h))
        ·cases d
       ·obtain⟨l,t,rfl⟩:=cD.1 d;obtain⟨p,q⟩:=rz _ _ _ t;refine wE (N:=m+n) ?_ λy e=>?_
        ·have:(l.length:Int)<=8:=by omega
         simp[cN,dr,bL,this]
        ·obtain⟨f,j⟩:=di e;have s:f<x.2.2.length:=by rw[<-p];exact(aY.1 j).1
         exact wY m b self k i n x.2.2[f] (bi n x _ hr (io _)) y (q f _ y (aN s) j)
    ·obtain rfl:=az d;exact qF (N:=m+n+1) (by omega) x hr
def Gh(a:Int)(bd:Bool)(self:Int):Int:=if a=0 then if bd then if 1<=self/\self<=99 then 0 else 1 else 5 else a
def oz{N:Nat}(E:Int)(o:Option (Tm N)):Option (Tm N):=if E=0 then o.bind λa=>if bG N a=0 then some a else none else none
def Gg{N:Nat}(E:Int)(o:Option (Tm N)):Int:=if E=0 then if o.isSome then 0 else 7 else E
theorem FZ{n:Nat}{p:List (Tm n)}{s:ap}{k:Nat}(a:p.length≠1+k):uC n p s k=false:=by simp[uC,a]
theorem Pf{n:Nat}{p:List (Tm (n+1))}{s:ap}{k:Nat}{y:Tm (n+1)}(a:p.length=1+k)(b:p[0]?=some y):uC (n+1) p s k=(y.1.1==2 && y.1.2.2.toList==s.toList):=by
 simp[uC,a,b,b8,gF,bL]
theorem Hr(a:au)(len pc:Nat)(s:ap)(k:Nat)(w:ag)(f:k<=8)(c:len≠1+k):ao 206 #[ae a len pc,af s,ab k] w λe w'=>e=.returned (.bool false)/\w'=w:=by
 have d:((len:Int)==1+(k:Int))=false:=by simp;omega
 have b:IntKind.i64.wrap (1+(k:Int))=1+(k:Int):=by rw[IntKind.wrap];simp[IntKind.bits,IntKind.signed];omega
 go_enter func206,ntmps206;go_wp2_with fail
 go_ret
 exact⟨rfl,rfl⟩
theorem Hq(a po len pc:Nat)(s:ap)(k:Nat)(b:Int)(c:ap)(w:ag)(l:len<=8)(j:k<=8)(g:len=1+k)(c0:ah w a po (ab b))(d:ah w a (po+2) (af c)):ao 206 #[ae (some ⟨a,po,none⟩) len pc,af s,ab k] w λe w'=>e=.returned (.bool (b==2 && c.toList==s.toList))/\w'=w:=by
 have h:((len:Int)==1+(k:Int))=true:=by simp;omega
 have f:IntKind.i64.wrap (1+(k:Int))=1+(k:Int):=by rw[IntKind.wrap];simp[IntKind.bits,IntKind.signed];omega
 have i:(0:Int)<(len:Int):=by omega
 cases hx:b==2
 ·go_enter func206,ntmps206;go_wp2_with fail
  go_ret
  exact⟨rfl,rfl⟩
 ·go_enter func206,ntmps206;go_wp2_with fail
  go_ret
  exact⟨rfl,rfl⟩
theorem Eb(n:Nat)(p:List (Tm n))(a:au)(pc B:Nat)(s:ap)(k:Nat)(w:ag)(d:fU B w n p a)(m:p.length<=8)(h:k<=8):ao 206 #[ae a p.length pc,af s,ab k] w λe w'=>e=.returned (.bool (uC n p s k))/\w'=w:=by
 by_cases c:p.length=1+k
 ·rcases d with d|⟨b,o,rfl,u,d⟩
  ·rw[d]at c;simp at c;omega
  ·obtain⟨f,i⟩:∃f,p[0]?=some f:=⟨p[0]'(by omega),aN _⟩;obtain⟨g,t⟩:=d 0 f i;cases n with
   | zero=>exact g.elim
   | succ n=>
    rw[Pf c i];obtain⟨j,q,l,r⟩:=g;exact Hq b o p.length pc s k f.1.1 f.1.2.2 w m h c (by simpa using j) (by simpa using l)
 ·rw[FZ c];exact Hr a p.length pc s k w h c
def ku(N:Nat)(o:Option (Tm N))(w:ag)(e:Ending)(w':ag):Prop:=
 ∃(a:Tm N)(b:Bool),e=.returned (.tuple #[dB N a,.bool b])/\Hid (am w w'/\In w'.heap.size w' N a/\cv (λd=>w.heap.size<=d) N a/\b=o.isSome/\∀c,o=some c->aB N a N c=true)
def OL(m:Nat)(b:List (Tm m))(self:Int)(n:Nat):Prop:=∀(x:Tm n)(a:au)(c B:Nat)(w:ag),In B w n x->aJ ⟨n,x⟩->fU B w m b a->B<=w.heap.size->
 ao 189 #[.agg #[ae a 4 c,ab self],dB n x] w (ku (m+n) (vl m b self n x) w)
def OO{N:Nat}(o:Option (Tm N))(w:ag)(e:Ending)(w':ag):Prop:=
 ∃(c:Int)(b:Bool),e=.returned (.tuple #[ab c,.bool b])/\Hid (am w w'/\b=(o.isSome && o.all λa=>b8 ⟨N,a⟩==1)/\∀a,o=some a->c=pY N a)
theorem Es{N:Nat}{o:Option (Tm (N+1))}{w w1 w2:ag}{y:Tm (N+1)}{r:Bool}(f:am w w2)(d:am w1 w2/\In w2.heap.size w2 (N+1) y/\cv (λq=>w1.heap.size<=q) (N+1) y/\r=o.isSome/\∀a,o=some a->aB (N+1) y (N+1) a=true)(c:Bool)(g:c=(r && y.1.1==1)):am w w2/\c=(o.isSome && o.all λa=>b8 ⟨N+1,a⟩==1)/\∀a,o=some a->y.1.2.1=pY (N+1) a:=by
 obtain⟨_,_,_,e,b⟩:=d;refine⟨f,?_,λa h=>?_⟩
 ·rw[g,e];cases ho:o with
  | none=>rfl
  | some a=>
   have:=(bN (b a ho)).1;simp[b8,this]
 ·have:=(bN (b a h)).1;simp[pY,gF,bL,this]
theorem Jp{w w':ag}{a b:Obj}(d:Below ((w.alloc a).alloc b).heap.size ((w.alloc a).alloc b) w'):am w w':=by
 have c:am w ((w.alloc a).alloc b):=(aS _ _).alloc (by simp) _;exact c.trans (d.mono c.size)
theorem tP(N:Nat)(o:Option (Tm (N+1)))(a:au)(c:Nat)(self:Int)(k l:Int)(m:ap)(xa:au)(n xc:Nat)(w:ag)(i:Hid (∀w1,am w w1->ao 189 #[.agg #[ae a 4 c,ab self],.agg #[ab k,ab l,af m,ae xa n xc]] w1 (ku (N+1) o w1))):ao 210 #[.agg #[ae a 4 c,ab self],.agg #[ab k,ab l,af m,ae xa n xc]] w (OO o w):=by
 go_enter func210,ntmps210;go_wp2_with fail;refine(i _ ((aS _ _).alloc (by simp) _)).mono ?_;rintro s f ⟨d,q,rfl,e⟩;have HB:Hid (am w f):=Jp e.1;have j:dB (N+1) d=.agg #[ab d.1.1,ab d.1.2.1,af d.1.2.2,ae d.2.1.1 d.2.2.length d.2.1.2]:=rfl;rw[j];clear j i;have h:=λr p=>aq (Es HB e r p);clear HB e;have g:Hid (∀o:Obj,am w f->am w (f.alloc o).drew):=λo b=>(b.alloc b.size o).drew;cases q
 ·go_wp2_with fail;go_region;go_wp2_with fail
  go_ret2
  have b:=(h false rfl).out;exact⟨_,_,rfl,g _ b.1,b.2⟩
 ·go_wp2_with fail;go_region;go_wp2_with fail
  go_ret2
  have b:=(h _ rfl).out;exact⟨_,_,rfl,g _ b.1,b.2⟩
def PU{N:Nat}(o:Option (Tm N)):Prop:=∀a,o=some a->b8 ⟨N,a⟩=1-> -1099511627776<=pY N a/\pY N a<=1099511627776
def xC{N:Nat}(b d:Option (Tm N)):Option (Tm (N+1)):=b.bind λa=>d.bind λc=>ut N a c
theorem NX{N:Nat}{a d:Option (Tm N)}(b:(a.isSome && a.all λe=>b8 ⟨N,e⟩==1)=false):xC a d=none:=by
 cases a with
 | none=>rfl
 | some f=>
  simp at b;cases d with
  | none=>rfl
  | some c=>simp[xC,ut,AE,b]
theorem LQ{N:Nat}{d a:Option (Tm N)}(b:(a.isSome && a.all λe=>b8 ⟨N,e⟩==1)=false):xC d a=none:=by
 cases d with
 | none=>rfl
 | some f=>
  cases a with
  | none=>rfl
  | some c=>
   simp at b;simp[xC,ut,AE,b]
theorem LR{N:Nat}{b d:Option (Tm N)}{e v:Int}(i:true=(b.isSome && b.all λa=>b8 ⟨N,a⟩==1))(j:true=(d.isSome && d.all λa=>b8 ⟨N,a⟩==1))(k:∀a,b=some a->e=pY N a)(l:∀a,d=some a->v=pY N a)(m:PU b)(n:PU d):xC b d=(if -1099511627776<=e+v/\e+v<=1099511627776 then some (bW 1 (e+v) N)else none)/\(-1099511627776<=e/\e<=1099511627776)/\(-1099511627776<=v/\v<=1099511627776):=by
 cases b with
 | none=>simp at i
 | some f=>
  cases d with
  | none=>simp at j
  | some c=>
   have g:b8 ⟨N,f⟩=1:=by simpa using i.symm
   have h:b8 ⟨N,c⟩=1:=by simpa using j.symm
   rw[k f rfl,l c rfl];refine⟨?_,m f rfl g,n c rfl h⟩;simp[xC,ut,AE,g,h,rh]
theorem jK:dI 0:=by simp[dI]
theorem lN(N:Nat)(k a:Int)(b:dI k)(c:dI a)(B:Nat)(w:ag)(P:aO):In B w (N+1) (bW k a N)/\cv P (N+1) (bW k a N):=
 ⟨⟨⟨b,c,aM _,aM _,aM _⟩,aj rfl⟩,aj rfl⟩
theorem xY(N:Nat)(k a:Int):aB (N+1) (bW k a N) (N+1) (bW k a N)=true:=dm rfl rfl
theorem kT{N:Nat}{w w':ag}(a:am w w'):ku (N+1) none w (.returned (.tuple #[.agg #[ab 0,ab 0,af .empty,ae none 0 0],.bool false])) w':=
 ⟨bW 0 0 N,false,rfl,a,(lN N 0 0 jK jK _ _ (λ_=>True)).1,(lN N 0 0 jK jK 0 w _).2,rfl,λc b=>by cases b⟩
theorem yZ{N:Nat}{w w':ag}(d:am w w')(k a:Int)(b:dI k)(c:dI a):ku (N+1) (some (bW k a N)) w (.returned (.tuple #[.agg #[ab k,ab a,af .empty,ae none 0 0],.bool true])) w':=
 ⟨bW k a N,true,rfl,d,(lN N k a b c _ _ (λ_=>True)).1,(lN N k a b c 0 w _).2,rfl,λf e=>by obtain rfl:=az e;exact xY N k a⟩
theorem nO(w:ag)(a b c d:Obj):am w ((((w.alloc a).alloc b).alloc c).alloc d):=(((aS _ _).alloc (by simp) _).alloc (by simp;omega) _).alloc (by simp;omega) _
def oo(q:Nat)(w:ag):Prop:=(ah w q 0 (ab 0)/\ah w q 1 (ab 0)/\ah w q 2 (af .empty)/\ah w q 3 (ae none 0 0))/\(w.frozen? ⟨q,0,none⟩=false/\w.frozen? ⟨q,1,none⟩=false/\w.frozen? ⟨q,2,none⟩=false/\w.frozen? ⟨q,3,none⟩=false)/\q<w.heap.size
theorem oo.below{q:Nat}{w w':ag}(e:oo q w)(c:am w w'):oo q w':=by
 obtain⟨⟨f,g,h,i⟩,⟨f0,f1,f2,f3⟩,d⟩:=e;have a:=λo=>c.cell (p:=⟨q,o,none⟩) d;have b:=λo=>c.frozen (p:=⟨q,o,none⟩) d;exact⟨⟨(a 0).trans f,(a 1).trans g,(a 2).trans h,(a 3).trans i⟩,⟨(b 0).trans f0,(b 1).trans f1,(b 2).trans f2,(b 3).trans f3⟩,aW d c.size⟩
theorem DW{w w':ag}{s0 s1 g h i j y0 y1 y2 e:ar}{t1 t2 t3 t4:TypeId}(a:Below ((((w.alloc (.cells #[s0,s1] t1)).alloc (.cells #[g,h,i,j] t2)).alloc (.cells #[y0,y1,y2,e] t3)).alloc (.cells #[ab 0,ab 0,af .empty,ae none 0 0] t4)).heap.size ((((w.alloc (.cells #[s0,s1] t1)).alloc (.cells #[g,h,i,j] t2)).alloc (.cells #[y0,y1,y2,e] t3)).alloc (.cells #[ab 0,ab 0,af .empty,ae none 0 0] t4)) w'):(ah w' w.heap.size 0 s0/\ah w' w.heap.size 1 s1)/\ (w'.cell? ⟨w.heap.size+1+1,0,none⟩=some y0/\w'.cell? ⟨w.heap.size+1+1,1,none⟩=some y1/\w'.cell? ⟨w.heap.size+1+1,2,none⟩=some y2/\w'.cell? ⟨w.heap.size+1+1,3,none⟩=some e)/\oo (w.heap.size+1+1+1) w':=by
 have k:=a.size;simp at k;have f:=λo=>a.cell (p:=⟨w.heap.size,o,none⟩) (by simp;omega);have b:=λo=>a.cell (p:=⟨w.heap.size+1+1,o,none⟩) (by simp;try omega);have d:=λo=>a.cell (p:=⟨w.heap.size+1+1+1,o,none⟩) (by simp);have c:=λo=>a.frozen (p:=⟨w.heap.size+1+1+1,o,none⟩) (by simp)
 exact⟨⟨(f 0).trans (by simp[go_sem]),(f 1).trans (by simp[go_sem])⟩,⟨(b 0).trans (by simp[go_sem]),(b 1).trans (by simp[go_sem]),(b 2).trans (by simp[go_sem]),(b 3).trans (by simp[go_sem])⟩,
  ⟨(d 0).trans (by simp[go_sem]),(d 1).trans (by simp[go_sem]),(d 2).trans (by simp[go_sem]),(d 3).trans (by simp[go_sem])⟩,⟨(c 0).trans (by simp[go_sem]),(c 1).trans (by simp[go_sem]),(c 2).trans (by simp[go_sem]),(c 3).trans (by simp[go_sem])⟩,by omega⟩
theorem dn{w w':ag}{q:Nat}(a:am w w')(c:w.heap.size<=q)(v0 v1 v2 v3:ar):am w (cZ w' q 0 v0 v1 v2 v3):=
 ⟨a.os,a.tape,a.output,aF a.size (dO (bD _ _ _ _).symm),λk b=>(bk (by omega) _ _ _ _).trans (a.block k b)⟩
theorem LU(N:Nat)(p q:Option (Tm N))(B:Hid (PU p))(C:Hid (PU q))(a:au)(c:Nat)(self:Int)(D E:Int)(F:ap)(xa:au)(G xc:Nat)(y0 y1:Int)(y2:ap)(ya:au)(yl yc:Nat)(w:ag)(u:Hid (∀w1,am w w1->ao 210 #[.agg #[ae a 4 c,ab self],.agg #[ab D,ab E,af F,ae xa G xc]] w1 (OO p w1)))(x:Hid (∀w1,am w w1->ao 210 #[.agg #[ae a 4 c,ab self],.agg #[ab y0,ab y1,af y2,ae ya yl yc]] w1 (OO q w1))):ao 207 #[.agg #[ae a 4 c,ab self],.agg #[ab D,ab E,af F,ae xa G xc],.agg #[ab y0,ab y1,af y2,ae ya yl yc]] w (ku (N+1) (xC p q) w):=by
 obtain⟨o,t⟩:∃o,o=xC p q:=⟨_,rfl⟩;rw[<-t];have l:=aq t;clear t;go_enter func207,ntmps207;go_wp2_with fail;refine(u _ (nO _ _ _ _ _)).mono ?_;rintro K O ⟨b,j,rfl,d⟩;obtain⟨⟨L,M⟩,⟨d0,d1,d2,d3⟩,A⟩:=DW d.1;have r:=aq A;have HB:Hid (am w O):=(nO _ _ _ _ _).trans (d.1.mono (nO _ _ _ _ _).size);have m:Hid (j=_/\_):=d.2;clear u d A;cases j
 ·have e:Hid (o=none):=l.trans (NX m.1.symm);obtain⟨⟨f,g,h,i⟩,⟨f0,f1,f2,f3⟩,_⟩:=r.out;go_wp2_with fail;rw[e.out];exact ay (v:=.tuple #[.agg #[ab 0,ab 0,af .empty,ae none 0 0],.bool false]) (by simp[results,results207,go_sem,f,g,h,i];rfl) rfl (kT (dn HB (by omega) _ _ _ _))
 ·go_wp2_with fail;refine(x _ HB).mono ?_;rintro K P ⟨v,j,rfl,d⟩;have k:Hid (am w P):=HB.trans (d.1.mono HB.size);have n:Hid (j=_/\_):=d.2;have H:=aq (r.below d.1);obtain⟨⟨f,g,h,i⟩,⟨f0,f1,f2,f3⟩,_⟩:=H;clear x d HB L M d0 d1 d2 d3 r;cases j
  ·have e:Hid (o=none):=l.trans (LQ n.1.symm);go_wp2_with fail;rw[e.out];exact ay (v:=.tuple #[.agg #[ab 0,ab 0,af .empty,ae none 0 0],.bool false]) (by simp[results,results207,go_sem,f,g,h,i];rfl) rfl (kT (dn k (by omega) _ _ _ _))
  ·obtain⟨es,⟨R,S⟩,T,U⟩:=LR m.1 n.1 m.2 n.2 B C;have s:Hid (o=if -1099511627776<=b+v/\b+v<=1099511627776 then some (bW 1 (b+v) N)else none):=l.trans es;have Q:IntKind.i64.wrap (b+v)=b+v:=by rw[IntKind.wrap];simp[IntKind.bits,IntKind.signed];omega
   clear l m n es B C;by_cases y:b+v< -1099511627776
   ·have I:decide (b+v< -1099511627776)=true:=by simpa using y
    have e:Hid (o=none):=s.trans (if_neg (by omega));go_wp2_with fail;rw[e.out];exact ay (v:=.tuple #[.agg #[ab 0,ab 0,af .empty,ae none 0 0],.bool false]) (by simp[results,results207,go_sem,f,g,h,i];rfl) rfl (kT (dn k (by omega) _ _ _ _))
   ·have I:decide (b+v< -1099511627776)=false:=by simpa using y
    by_cases z:1099511627776<b+v
    ·have J:decide (1099511627776<b+v)=true:=by simpa using z
     have e:Hid (o=none):=s.trans (if_neg (by omega));go_wp2_with fail;rw[e.out];exact ay (v:=.tuple #[.agg #[ab 0,ab 0,af .empty,ae none 0 0],.bool false]) (by simp[results,results207,go_sem,f,g,h,i];rfl) rfl (kT (dn k (by omega) _ _ _ _))
    ·have J:decide (1099511627776<b+v)=false:=by simpa using z
     have e:Hid (o=some (bW 1 (b+v) N)):=s.trans (if_pos (by omega));go_wp2_with fail;rw[e.out];exact ay (v:=.tuple #[.agg #[ab 1,ab (b+v),af .empty,ae none 0 0],.bool true]) (by simp[results,results207,go_sem,f,g,h,i];rfl) rfl (yZ (dn k (by omega) _ _ _ _) 1 (b+v) (by simp[dI]) ⟨by omega,by omega⟩)
def wX{n N:Nat}(f:Tm n->Option (Tm N))(p:List (Tm n)):List (Tm N):=p.map λy=>(f y).getD (aZ N 0 ())
def Om{n N:Nat}(f:Tm n->Option (Tm N))(p:List (Tm n))(k:Nat):Prop:=∀(i:Nat)(y:Tm n),i<k->p[i]?=some y->(f y).isSome=true
theorem Mb{n N:Nat}{f:Tm n->Option (Tm N)}{p:List (Tm n)}{k:Nat}(c:Om f p k)(h:p.length<=k):cV f p=some (wX f p):=by
 refine xL f _ p λb e=>?_;obtain⟨g,a⟩:=di e;have i:=(aY.1 a).1;have:=c g b (by omega) a;cases d:f b with
 | none=>rw[d]at this;cases this
 | some j=>rfl
theorem Om.next{n N:Nat}{f:Tm n->Option (Tm N)}{p:List (Tm n)}{k:Nat}{x:Tm n}(d:Om f p k)(g:p[k]?=some x)(e:true=(f x).isSome):Om f p (k+1):=by
 intro b h i a;by_cases c:b=k
 ·subst c;rw[g]at a;obtain rfl:=az a;exact e.symm
 ·exact d b h (by omega) a
theorem N6{n N:Nat}{f:Tm n->Option (Tm N)}{p:List (Tm n)}{k:Nat}{x:Tm n}(d:p[k]?=some x)(c:true=(f x).isSome):∃a,(wX f p)[k]?=some a/\f x=some a:=by
 cases b:f x with
 | none=>rw[b]at c;cases c
 | some a=>exact⟨a,by simp[wX,d,b],rfl⟩
theorem Jn{N:Nat}{P:List (Tm N)}{w wr:ag}{g len k:Nat}{l:List (Tm N)}(i:uP N P len g k l wr)(u:P.length=len)(o:k=len)(m:am w wr)(v:len<=8)(q:Nat)(p:w.heap.size<=q)(y:q<g)(v0 v1 v2 v3:ar):ku (N+1) (some (dr N P)) w (.returned (.tuple #[.agg #[ab 4,ab 0,af .empty,ae (some ⟨g,0,none⟩) len len],.bool true])) (cZ wr q 0 v0 v1 v2 v3):=by
 obtain⟨j,c,d,e⟩:=i;subst o;rw[bA (by omega)]at e;rw[gj,nw,dL]at c;refine⟨((4,0,.empty),(some ⟨g,0,none⟩,k),l),true,?_,dn m p _ _ _ _,?_,?_,rfl,λz s=>?_⟩
 ·simp only[dB,j]
 ·refine⟨⟨by simp[dI],by simp[dI],aM _,by simp only;omega,by unfold maxLen;simp only;omega⟩,ak ⟨g,0,rfl,by rw[bD];exact c.lt.2,λf b a=>?_⟩⟩;obtain⟨h,t⟩:=d b (aL a);have n:=c.cells f ⟨N,b⟩ (by simp[a]);refine⟨dC.block (bk (by omega) _ _ _ _) ?_,?_⟩
  ·cases N with
   | zero=>exact h.elim
   | succ N=>
    rw[cP];exact n
  ·rw[bD];exact In.off (P:=λx=>g<x) (λx r=>bk (by omega) _ _ _ _) t h
 ·exact ak ⟨g,0,rfl,by omega,λf b a=>(d b (aL a)).2.mono λx r=>by omega⟩
 ·obtain rfl:=az s;exact dm rfl e
theorem Mc{n N:Nat}(f:Tm n->Option (Tm N))(p:List (Tm n)):(wX f p).length=p.length:=by simp[wX]
theorem uP.grow{N:Nat}{P:List (Tm N)}{len g k:Nat}{l:List (Tm N)}{w w':ag}(e:uP N P len g k l w)(a:am w w'):uP N P len g k l w':=by
 obtain⟨f,h,b,i⟩:=e;exact⟨f,h.below a,λd c=>⟨((b d c).1.below a).mono a.size,(b d c).2⟩,i⟩
theorem oo.block{q:Nat}{w w':ag}(d:oo q w)(c:w'.heap[q]?=w.heap[q]?)(j:w.heap.size<=w'.heap.size):oo q w':=by
 obtain⟨⟨e,f,g,h⟩,⟨f0,f1,f2,f3⟩,i⟩:=d;have a:=λo=>bE c o;have b:∀o,w'.frozen? ⟨q,o,none⟩=w.frozen? ⟨q,o,none⟩:=λo=>by simp[World.frozen?,c]
 exact⟨⟨(a 0).trans e,(a 1).trans f,(a 2).trans g,(a 3).trans h⟩,⟨(b 0).trans f0,(b 1).trans f1,(b 2).trans f2,(b 3).trans f3⟩,aW i j⟩
theorem vA{w w':ag}(a:w.grownBy w' none):am w w':=⟨a.os,a.tape,a.output,a.size,λk b=>a.block k b (by simp)⟩
theorem zv{w w':ag}{s0 s1:ar}{t1 t2:TypeId}(f:((w.alloc (.cells #[s0,s1] t1)).alloc (.cells #[ab 0,ab 0,af .empty,ae none 0 0] t2)).grownBy w' none):am w w'/\(ah w' w.heap.size 0 s0/\ah w' w.heap.size 1 s1)/\oo (w.heap.size+1) w':=by
 have a:=vA f;have g:=a.size;simp at g;have d:am w ((w.alloc (.cells #[s0,s1] t1)).alloc (.cells #[ab 0,ab 0,af .empty,ae none 0 0] t2)):=(aS _ _).alloc (by simp) _;have e:=λo=>a.cell (p:=⟨w.heap.size,o,none⟩) (by simp;omega);have c:=λo=>a.cell (p:=⟨w.heap.size+1,o,none⟩) (by simp);have b:=λo=>a.frozen (p:=⟨w.heap.size+1,o,none⟩) (by simp)
 exact⟨d.trans (a.mono d.size),⟨(e 0).trans (by simp[go_sem]),(e 1).trans (by simp[go_sem])⟩,
  ⟨(c 0).trans (by simp[go_sem]),(c 1).trans (by simp[go_sem]),(c 2).trans (by simp[go_sem]),(c 3).trans (by simp[go_sem])⟩,⟨(b 0).trans (by simp[go_sem]),(b 1).trans (by simp[go_sem]),(b 2).trans (by simp[go_sem]),(b 3).trans (by simp[go_sem])⟩,by omega⟩
theorem C9(m:Nat)(b:List (Tm m))(self:Int)(n:Nat)(ih:Hid (OL m b self n))(p:List (Tm n))(len:Nat)(W:Hid (p.length=len))(pa:au)(pc:Nat)(a:au)(c B:Nat)(w:ag)(a1:len<=8)(V:Hid (fU B w n p pa))(a3:Hid (∀y∈p,aJ ⟨n,y⟩))(aC:Hid (fU B w m b a))(H:B<=w.heap.size):ao 208 #[.agg #[ae a 4 c,ab self],ae pa len pc] w (ku (m+n+1) ((cV (λy=>vl m b self n y) p).map (dr (m+n))) w):=by
 obtain⟨o,T⟩:∃o,o=(cV (λy=>vl m b self n y) p).map (dr (m+n)):=⟨_,rfl⟩;rw[<-T];have ax:=aq T;clear T;obtain⟨a5,aG,aO,aP,aQ⟩:=bU gJ;go_enter func208,ntmps208;go_wp2_with (at_make;refine lu _ rfl _ _ 29 rfl _ 31 a5 _ 4 underlying29 aG aO aP _ _ _ _ len rfl rfl rfl rfl (by rw[aQ];omega) (by unfold maxLen;omega) (av _) ?_;intro g aI S;have s:=aq (rH (m+n) (wX (λy=>vl m b self n y) p) len aI);have aW:=aq (vA S);have aA:=aq (zv S);clear aI S aG aO aP aQ);have es:((w.alloc (.cells #[ae a 4 c,ab self] 278)).alloc (.cells #[ab 0,ab 0,af ⟨#[]⟩,ae none 0 0] 31)).heap.size=w.heap.size+1+1:=by simp
 rw[es]at s;clear es aW;obtain⟨aD,aE,D⟩:=aA.out
 have ap:Hid (am w g/\(ah g w.heap.size 0 (ae a 4 c)/\ah g w.heap.size 1 (ab self))/\oo (w.heap.size+1) g/\Om (λy=>vl m b self n y) p 0/\∃l,uP (m+n) (wX (λy=>vl m b self n y) p) len (w.heap.size+1+1) 0 l g):=
  ⟨aD,aE,D,λr y bn _=>by omega,[],s.out⟩
 clear aA s aD aE D;go_wp2_with fail;go_loopw [16] (λr wr=>∃k:Nat,k<=len/\r=ab k/\Hid (am w wr/\(ah wr w.heap.size 0 (ae a 4 c)/\ah wr w.heap.size 1 (ab self))/\oo (w.heap.size+1) wr/\Om (λy=>vl m b self n y) p k/\∃l,uP (m+n) (wX (λy=>vl m b self n y) p) len (w.heap.size+1+1) k l wr)) (λr _=>len-(intOf r).toNat)
 case atStart=>exact⟨0,by omega,rfl,ap.out⟩
 case round=>
  obtain⟨k,bo,rfl,az⟩:=hrel;clear ap;obtain⟨h,⟨Z,aa⟩,G,u,l,i⟩:Hid (am w wr)/\(ah wr w.heap.size 0 (ae a 4 c)/\ah wr w.heap.size 1 (ab self))/\Hid (oo (w.heap.size+1) wr)/\Hid (Om (λy=>vl m b self n y) p k)/\∃l,Hid (uP (m+n) (wX (λy=>vl m b self n y) p) len (w.heap.size+1+1) k l wr):=az.out;clear az;by_cases aH:k<len
  ·obtain⟨x,t⟩:∃x,p[k]?=some x:=⟨p[k]'(by rw[W.out];exact aH),aN _⟩;obtain⟨E,po,rfl,a2,aK⟩:∃E po,pa=some ⟨E,po,none⟩/\E<B/\∀(r:Nat)(y:Tm n),p[r]?=some y->dC w E (po+r*4) n y/\In B w n y:=by
    rcases V.out with P|P
    ·rw[P]at t;simp at t
    ·exact P
   obtain⟨I,J⟩:=aK k x t;have N:=aq t;have aY:=aq (a3.out x (aL t));replace I:=I.below (h.out.mono H) a2;replace J:=J.below (h.out.mono H);have Q:B<=wr.heap.size:=aF H h.out.size
   have F:Hid (∀g,am wr g->ao 189 #[.agg #[ae a 4 c,ab self],dB n x] g (ku (m+n) (vl m b self n x) g)):=
    λg e=>ih.out x a c B g (J.below (e.mono Q)) aY.out ((aC.out.below (h.out.mono H)).below (e.mono Q)) (aF Q e.size)
   obtain⟨Y,U⟩:∃Y,Y=vl m b self n x:=⟨_,rfl⟩;rw[<-U]at F;have L:=aq U;clear aK t V U J;cases n with
   | zero=>exact I.elim
   | succ n=>
   obtain⟨bc,bd,be,bf⟩:=I;have A:dB (n+1) x=.agg #[ab x.1.1,ab x.1.2.1,af x.1.2.2,ae x.2.1.1 x.2.2.length x.2.1.2]:=rfl;rw[A]at F;clear A;generalize x.2.2.length=bs at*;have bp:(0:Int)<=(k:Int):=by omega
   have bq:(k:Int)<(len:Int):=by omega
   have br:E<wr.heap.size:=by omega
   have aM:w.heap.size<wr.heap.size:=by have:=G.out.2.2;omega
   go_wp2_with fail;refine(F.out _ (aS _ _)).mono ?_;rintro bl d ⟨y,a7,rfl,j⟩;have q:Hid (am wr d):=(aS _ _).trans (j.out.1.mono (by simp));have aB:Hid (am w d):=h.out.trans (q.out.mono h.out.size);have O:=aq (G.out.below q.out);replace Z:=(aw q.out _ _ aM).trans Z;replace aa:=(aw q.out _ _ aM).trans aa;have A:dB (m+(n+1)) y=.agg #[ab y.1.1,ab y.1.2.1,af y.1.2.2,ae y.2.1.1 y.2.2.length y.2.1.2]:=rfl;rw[A];clear F bc bd be bf G A;cases a7
   ·have K:Hid (o=none):=by
      have e:vl m b self (n+1) x=none:=by
       have:=j.out.2.2.2.1;rw[<-L.out];cases Y with
       | none=>rfl
       | some ad=>cases this
      show o=none;rw[ax.out,mK _ p k x N.out e];rfl
    obtain⟨⟨ai,aj,ak,al⟩,⟨f0,f1,f2,f3⟩,aT⟩:=O.out;clear j i u;go_wp2_with fail;rw[K.out];exact ay (v:=.tuple #[.agg #[ab 0,ab 0,af .empty,ae none 0 0],.bool false]) (by simp[results,results208,go_sem,ai,aj,ak,al,aT];rfl) rfl (kT ((dn aB.out (by omega) _ _ _ _).alloc (by rw[bD];omega) _))
   ·have R:true=(vl m b self (n+1) x).isSome:=by rw[<-L.out];exact j.out.2.2.2.1
    obtain⟨ad,D,aR⟩:=N6 (f:=λy=>vl m b self (n+1) y) N.out R;have ar:=aq (u.out.next N.out R);have s:=aq (i.out.step aH ad D q.out y j.out.2.1 (j.out.2.2.1.mono λaV X=>by have:=i.out.2.1.lt.2;simp at X;omega) (j.out.2.2.2.2 ad (by rw[L.out];exact aR)));have z:=aq (i.out.2.1.below q.out);have M:Hid (am w (jO d (w.heap.size+1+1) (k*4) (gF (m+(n+1)) y))):=by
     have e:=aB.out;exact⟨e.os,e.tape,e.output,aF e.size (dO (bD _ _ _ _).symm),λaV X=>(bk (by omega) _ _ _ _).trans (e.block aV X)⟩
    have aX:Hid (∀o:Obj,am w ((jO d (w.heap.size+1+1) (k*4) (gF (m+(n+1)) y)).alloc o)/\(((jO d (w.heap.size+1+1) (k*4) (gF (m+(n+1)) y)).alloc o).cell? ⟨w.heap.size,0,none⟩=some (ae a 4 c)/\((jO d (w.heap.size+1+1) (k*4) (gF (m+(n+1)) y)).alloc o).cell? ⟨w.heap.size,1,none⟩=some (ab self))/\oo (w.heap.size+1) ((jO d (w.heap.size+1+1) (k*4) (gF (m+(n+1)) y)).alloc o)/\Om (λy=>vl m b self (n+1) y) p (k+1)/\∃l,uP (m+(n+1)) (wX (λy=>vl m b self (n+1) y) p) len (w.heap.size+1+1) (k+1) l ((jO d (w.heap.size+1+1) (k*4) (gF (m+(n+1)) y)).alloc o)):=by
     intro o;have C:Below (jO d (w.heap.size+1+1) (k*4) (gF (m+(n+1)) y)).heap.size (jO d (w.heap.size+1+1) (k*4) (gF (m+(n+1)) y)) ((jO d (w.heap.size+1+1) (k*4) (gF (m+(n+1)) y)).alloc o):=aS _ _;have a4:(jO d (w.heap.size+1+1) (k*4) (gF (m+(n+1)) y)).heap.size=d.heap.size:=bD _ _ _ _;have a0:=z.out.lt.2;refine⟨M.out.trans (C.mono M.out.size),⟨?_,?_⟩,?_,ar.out,l++ [y],s.out.grow C⟩
     ·exact(aw C _ _ (by omega)).trans ((bE (bk (by omega) _ _ _ _) _).trans Z)
     ·exact(aw C _ _ (by omega)).trans ((bE (bk (by omega) _ _ _ _) _).trans aa)
     ·refine oo.below ?_ C;exact O.out.block (bk (by omega) _ _ _ _) (dO a4.symm)
    obtain⟨an,aU⟩:∃an,(l.map (λx=>(⟨m+(n+1),x⟩:An))++List.replicate (len-k) zA)[k]?=some an:=⟨_,aN (by simp[i.out.1];omega)⟩;obtain⟨bg,bh,bi,bj⟩:=z.out.cells k an aU;have bm:=λa6=>z.out.free a6;have a0:w.heap.size+1+1<d.heap.size:=z.out.lt.2;clear j i u q h s ar M z aU O D aR R;go_wp2_with fail;go_roundw
    case rel=>exact⟨k+1,by omega,by go_num,aX.out _⟩
    case measure=>simp[intOf];omega
  ·obtain rfl:k=len:=by omega
   have K:Hid (o=some (dr (m+n) (wX (λy=>vl m b self n y) p))):=by
    show o=_;rw[ax.out,Mb u.out (by rw[W.out];exact av _)];rfl
   have aZ:=λa8 a9 ba bb=>aq (Jn i.out (by rw[Mc];exact W.out) rfl h.out a1 (w.heap.size+1) (by omega) (by omega) a8 a9 ba bb);obtain⟨⟨ai,aj,ak,al⟩,⟨f0,f1,f2,f3⟩,aT⟩:=G.out;clear u i h V aC;go_wp2_with fail;rw[K.out];exact ay (v:=.tuple #[.agg #[ab 4,ab 0,af .empty,ae (some ⟨w.heap.size+1+1,0,none⟩) k k],.bool true]) (by simp[results,results208,go_sem,ai,aj,ak,al];rfl) rfl (aZ _ _ _ _).out
theorem BY{P:aO}:(N n:Nat)->n<=N->(x:Tm n)->cv P n x->cv P N (aZ N n x)
 | _,0,_,_,k=>k.elim
 | 0,n+1,h,_,_=>by omega
 | N+1,n+1,h,x,k=>by
  rcases k with k|⟨b,o,e,d,k⟩
  ·exact aj (by simp[aZ,k])
  ·refine ak ⟨b,o,e,d,λi y a=>?_⟩;simp only[aZ,dh]at a;obtain⟨c,f,rfl⟩:=cD.1 a;exact BY N n (by omega) c (k i c f)
theorem KT(N n:Nat)(x:Tm (n+1)):dB (N+1) (aZ (N+1) (n+1) x)=dB (n+1) x:=by simp[dB,aZ]
theorem KS{N n:Nat}(d:n<=N){x y:Tm (n+1)}(a:aJ ⟨n+1,x⟩)(b:aB (n+1) y (n+1) x=true):aB (N+1) (aZ (N+1) (n+1) y) (N+1) (aZ (N+1) (n+1) x)=true:=by
 have c:aJ ⟨n+1,y⟩:=aU.2 (by rw[jR _ _ _ _ b];exact aU.1 a);exact bP _ _ _ _ _ _ (fN (N+1) (n+1) (by omega) y c) (bP _ _ _ _ _ _ b (dS _ _ _ _ (fN (N+1) (n+1) (by omega) x a)))
theorem Ju{N n:Nat}(b:n<=N){x y:Tm (n+1)}{w w':ag}(f:aJ ⟨n+1,x⟩)(c:am w w')(d:In w'.heap.size w' (n+1) y)(e:cv (λq=>w.heap.size<=q) (n+1) y)(g:aB (n+1) y (n+1) x=true)(r:Bool):ku (N+1) (if r then some (aZ (N+1) (n+1) x)else none) w (.returned (.tuple #[.agg #[ab y.1.1,ab y.1.2.1,af y.1.2.2,ae y.2.1.1 y.2.2.length y.2.1.2],.bool r])) w':=by
 refine⟨aZ (N+1) (n+1) y,r,by rw[KT];rfl,c,pj _ _ (by omega) _ _ _ d,BY _ _ (by omega) _ e,by cases r<;>rfl,λh a=>?_⟩;cases r with
 | false=>cases a
 | true=>
  obtain rfl:=az a;exact KS b f g
theorem wZ{N:Nat}{o:Option (Tm (N+1))}{w w1 w2:ag}{y:Tm (N+1)}{r:Bool}{q:Nat}(c:am w w1)(k:w.heap.size<=q)(m:q<w1.heap.size)(e:am w1 w2/\In w2.heap.size w2 (N+1) y/\cv (λq=>w1.heap.size<=q) (N+1) y/\r=o.isSome/\∀d,o=some d->aB (N+1) y (N+1) d=true)(v0 v1 v2 v3:ar):ku (N+1) o w (.returned (.tuple #[.agg #[ab y.1.1,ab y.1.2.1,af y.1.2.2,ae y.2.1.1 y.2.2.length y.2.1.2],.bool r])) (cZ w2 q 0 v0 v1 v2 v3):=by
 obtain⟨f,g,a,h,i⟩:=e;have l:=c.size;refine⟨y,r,rfl,dn (c.trans (f.mono l)) k _ _ _ _,?_,a.mono λb j=>by omega,h,i⟩;rw[bD];exact In.off (P:=λb=>w1.heap.size<=b) (λb j=>bk (by omega) _ _ _ _) a g
theorem xb{N n:Nat}(h:n<=N){x y:Tm (n+1)}{w w1 w2 g:ag}{q:Nat}(p:aJ ⟨n+1,x⟩)(e:am w w1)(o:w.heap.size<=q)(s:q<w1.heap.size)(k:am w1 w2/\In w2.heap.size w2 (n+1) y/\cv (λq=>w1.heap.size<=q) (n+1) y/\aB (n+1) y (n+1) x=true)(a:am w2 g)(r:Bool)(v0 v1 v2 v3:ar):ku (N+1) (if r then some (aZ (N+1) (n+1) x)else none) w (.returned (.tuple #[.agg #[ab y.1.1,ab y.1.2.1,af y.1.2.2,ae y.2.1.1 y.2.2.length y.2.1.2],.bool r])) (cZ g q 0 v0 v1 v2 v3):=by
 obtain⟨c,i,d,j⟩:=k;have f:=e.size;have l:=(e.trans (c.mono f)).trans (a.mono (aF f c.size));refine Ju h p (dn l o _ _ _ _) ?_ (d.mono λb m=>by omega) j r;rw[bD];exact In.off (P:=λb=>w1.heap.size<=b) (λb m=>bk (by omega) _ _ _ _) d ((i.below a).mono a.size)
theorem AM{w:ag}{s0 s1:ar}{t1 t2:TypeId}:am w ((w.alloc (.cells #[s0,s1] t1)).alloc (.cells #[ab 0,ab 0,af .empty,ae none 0 0] t2))/\oo (w.heap.size+1) ((w.alloc (.cells #[s0,s1] t1)).alloc (.cells #[ab 0,ab 0,af .empty,ae none 0 0] t2)):=by
 have a:=zv (w:=w) (s0:=s0) (s1:=s1) (t1:=t1) (t2:=t2) (w':=(w.alloc (.cells #[s0,s1] t1)).alloc (.cells #[ab 0,ab 0,af .empty,ae none 0 0] t2)) (gV _ _);exact⟨a.1,a.2.2⟩
theorem AN{w w1:ag}{s0 s1:ar}{t1 t2:TypeId}(a:w1=(w.alloc (.cells #[s0,s1] t1)).alloc (.cells #[ab 0,ab 0,af .empty,ae none 0 0] t2)):am w w1/\oo (w.heap.size+1) w1/\ah w1 w.heap.size 0 s0/\ah w1 w.heap.size 1 s1:=by
 subst a;have a:=zv (w:=w) (s0:=s0) (s1:=s1) (t1:=t1) (t2:=t2) (w':=(w.alloc (.cells #[s0,s1] t1)).alloc (.cells #[ab 0,ab 0,af .empty,ae none 0 0] t2)) (gV _ _);exact⟨a.1,a.2.2,a.2.1.1,a.2.1.2⟩
theorem N8(N:Nat)(o:Option (Tm (N+1)))(a:au)(c:Nat)(self:Int)(j:dI self)(pa:au)(len:Nat)(pc:Nat)(w:ag)(d:Hid (∀w1,am w w1->ao 206 #[ae pa len pc,af qp,ab 0] w1 λe w'=>e=.returned (.bool true)/\w'=w1))(i:Hid (o=some (bW 3 self N))):ao 202 #[.agg #[ae a 4 c,ab self],ae pa len pc] w (ku (N+1) o w):=by
 go_enter func202,ntmps202;go_wp2_with fail;refine(d _ AM.1).mono ?_;rintro e w1 ⟨rfl,g⟩;obtain⟨f,b,r,s⟩:=AN g;have HB:=aq f;have h:=aq b;have p:w.heap.size<w1.heap.size:=by have:=b.2.2;omega
 clear g f b d;obtain⟨⟨k,l,m,n⟩,⟨f0,f1,f2,f3⟩,q⟩:=h;go_wp2_with fail;rw[i.out];exact ay (v:=.tuple #[.agg #[ab 3,ab self,af .empty,ae none 0 0],.bool true]) (by simp[results,results202,go_sem,k,l,m,n];rfl) rfl (yZ (dn HB (by omega) _ _ _ _) 3 self (by simp[dI]) j)
theorem PF(N:Nat)(o:Option (Tm (N+1)))(a:au)(c:Nat)(self:Int)(b po:Nat)(j k:Int)(l:ap)(xa:au)(m xc:Nat)(y0 y1:Int)(y2:ap)(ya:au)(yl yc:Nat)(pc:Nat)(w:ag)(p:Hid (∀w1,am w w1->ao 206 #[ae (some ⟨b,po,none⟩) 3 pc,af qp,ab 0] w1 λe w'=>e=.returned (.bool false)/\w'=w1))(D:Hid (∀w1,am w w1->ao 206 #[ae (some ⟨b,po,none⟩) 3 pc,af xd,ab 2] w1 λe w'=>e=.returned (.bool true)/\w'=w1))(g:b<w.heap.size)(G:ah w b (po+4) (ab j)/\ah w b (po+4+1) (ab k)/\ah w b (po+4+2) (af l)/\ah w b (po+4+3) (ae xa m xc))(H:ah w b (po+8) (ab y0)/\ah w b (po+8+1) (ab y1)/\ah w b (po+8+2) (af y2)/\ah w b (po+8+3) (ae ya yl yc))(E:Hid (∀w1,am w w1->ao 207 #[.agg #[ae a 4 c,ab self],.agg #[ab j,ab k,af l,ae xa m xc],.agg #[ab y0,ab y1,af y2,ae ya yl yc]] w1 (ku (N+1) o w1))):ao 202 #[.agg #[ae a 4 c,ab self],ae (some ⟨b,po,none⟩) 3 pc] w (ku (N+1) o w):=by
 go_enter func202,ntmps202;go_wp2_with fail;refine(p _ AM.1).mono ?_;rintro e w1 ⟨rfl,r⟩;obtain⟨q,i,Z,aa⟩:=AN r;have HB:=aq q;have n:=aq i;have X:w.heap.size<w1.heap.size:=by have:=i.2.2;omega
 clear r q i p;have f:=aw HB;obtain⟨s,t,u,x⟩:=G;obtain⟨y,z,A,B⟩:=H;replace s:=(f _ _ g).trans s;replace t:=(f _ _ g).trans t;replace u:=(f _ _ g).trans u;replace x:=(f _ _ g).trans x;replace y:=(f _ _ g).trans y;replace z:=(f _ _ g).trans z;replace A:=(f _ _ g).trans A;replace B:=(f _ _ g).trans B;clear f;go_wp2_with fail;refine(D _ HB).mono ?_;rintro e P ⟨rfl,rfl⟩;have W:b<P.heap.size:=aW g HB.size;have U:¬(w.heap.size+1=b):=by omega
 have V:¬(b=w.heap.size+1):=by omega
 have I:∀d:Tm (N+1),dB (N+1) d=.agg #[ab d.1.1,ab d.1.2.1,af d.1.2.2,ae d.2.1.1 d.2.2.length d.2.1.2]:=λ_=>rfl;go_wp2_with fail
 go_region_held3 (λw'=>ah w' w.heap.size 0 (ae a 4 c)/\ah w' w.heap.size 1 (ab self)/\ah w' b (po+4) (ab j)/\ah w' b (po+4+1) (ab k)/\ah w' b (po+4+2) (af l)/\ah w' b (po+4+3) (ae xa m xc)
     /\ah w' b (po+8) (ab y0)/\ah w' b (po+8+1) (ab y1)/\ah w' b (po+8+2) (af y2)/\ah w' b (po+8+3) (ae ya yl yc))
  (go_keep) ((go_at_call 207;refine(E _ HB.drew).mono ?_;rintro e ad ⟨d,J,rfl,h⟩;rw[I];have f:=aw (cW h.1);have C:=aq (n.below (cW h.1));obtain⟨⟨Q,R,S,T⟩,⟨f0,f1,f2,f3⟩,Y⟩:=C))
 have F:=λK L M O=>aq (wZ HB.drew (iv _ 1) n.2.2 h K L M O);clear h f;go_wp2_with fail;exact ay (v:=.tuple #[.agg #[ab d.1.1,ab d.1.2.1,af d.1.2.2,ae d.2.1.1 d.2.2.length d.2.1.2],.bool J]) (by simp[results,results202,go_sem,Q,R,S,T]) rfl (F _ _ _ _)
theorem PG(N:Nat)(o:Option (Tm (N+1)))(a:au)(c:Nat)(self:Int)(b po:Nat)(n:Nat)(L:n<=N)(x:Tm (n+1))(cl:Bool)(pc:Nat)(w:ag)(l:Hid (∀w1,am w w1->ao 206 #[ae (some ⟨b,po,none⟩) 2 pc,af qp,ab 0] w1 λe w'=>e=.returned (.bool false)/\w'=w1))(C:Hid (∀w1,am w w1->ao 206 #[ae (some ⟨b,po,none⟩) 2 pc,af xd,ab 2] w1 λe w'=>e=.returned (.bool false)/\w'=w1))(D:Hid (∀w1,am w w1->ao 206 #[ae (some ⟨b,po,none⟩) 2 pc,af Df,ab 1] w1 λe w'=>e=.returned (.bool true)/\w'=w1))(f:b<w.heap.size)(M:dC w b (po+4) (n+1) x)(H:Hid (aJ ⟨n+1,x⟩))(G:Hid (∀w1,am w w1->ao 56 #[.agg #[ab x.1.1,ab x.1.2.1,af x.1.2.2,ae x.2.1.1 x.2.2.length x.2.1.2]] w1 λe w'=>∃y:Tm (n+1),e=.returned (dB (n+1) y)/\Hid (am w1 w'/\In w'.heap.size w' (n+1) y/\cv (λq=>w1.heap.size<=q) (n+1) y/\aB (n+1) y (n+1) x=true)))(E:Hid (∀w1,am w w1->ao 54 #[.agg #[ab x.1.1,ab x.1.2.1,af x.1.2.2,ae x.2.1.1 x.2.2.length x.2.1.2]] w1 λe w'=>e=.returned (.bool cl)/\am w1 w'))(F:Hid (o=if cl then some (aZ (N+1) (n+1) x)else none)):ao 202 #[.agg #[ae a 4 c,ab self],ae (some ⟨b,po,none⟩) 2 pc] w (ku (N+1) o w):=by
 go_enter func202,ntmps202;go_wp2_with fail;refine(l _ AM.1).mono ?_;rintro e w1 ⟨rfl,p⟩;obtain⟨m,i,aj,ak⟩:=AN p;have HB:=aq m;have k:=aq i;have ad:w.heap.size<w1.heap.size:=by have:=i.2.2;omega
 clear p m i l;have d:=aw HB;obtain⟨t,u,z,A⟩:=M;replace t:=(d _ _ f).trans t;replace u:=(d _ _ f).trans u;replace z:=(d _ _ f).trans z;replace A:=(d _ _ f).trans A;clear d;generalize x.2.2.length=S at*;go_wp2_with fail;refine(C _ HB).mono ?_;rintro e r ⟨rfl,rfl⟩;go_wp2_with fail;refine(D _ HB).mono ?_;rintro e r ⟨rfl,rfl⟩;have Z:b<r.heap.size:=aW f HB.size;have X:¬(w.heap.size+1=b):=by omega
 have Y:¬(b=w.heap.size+1):=by omega
 have J:∀y:Tm (n+1),dB (n+1) y=.agg #[ab y.1.1,ab y.1.2.1,af y.1.2.2,ae y.2.1.1 y.2.2.length y.2.1.2]:=λ_=>rfl;go_wp2_with fail
 go_region_held3 (λw'=>ah w' b (po+4) (ab x.1.1)/\ah w' b (po+4+1) (ab x.1.2.1)/\ah w' b (po+4+2) (af x.1.2.2)/\ah w' b (po+4+3) (ae x.2.1.1 S x.2.1.2))
  (go_keep) ((first|(go_at_call 56;refine(G _ HB.drew).mono ?_;rintro e s ⟨y,rfl,g⟩;rw[J];have d:=aw (cW g.1);have j:Hid (am w s):=(HB.drew).trans (g.1.mono HB.size))|(go_at_call 54;refine(E _ j).mono ?_;rintro e al ⟨rfl,h⟩;have K:=aw h;have aa:b<s.heap.size:=aW f j.size;have B:=aq ((k.below (cW g.1)).below h);obtain⟨⟨T,U,V,W⟩,⟨f0,f1,f2,f3⟩,ai⟩:=B)))
 have I:=λO P Q R=>aq (xb L H HB.drew (iv _ 1) k.2.2 g h cl O P Q R);clear g d K h;go_wp2_with fail;rw[F.out];exact ay (v:=.tuple #[.agg #[ab y.1.1,ab y.1.2.1,af y.1.2.2,ae y.2.1.1 y.2.2.length y.2.1.2],.bool cl]) (by simp[results,results202,go_sem,T,U,V,W]) rfl (I _ _ _ _)
theorem N7(N:Nat)(o:Option (Tm (N+1)))(a:au)(c:Nat)(self:Int)(pa:au)(len:Nat)(pc:Nat)(w:ag)(h:Hid (∀w1,am w w1->ao 206 #[ae pa len pc,af qp,ab 0] w1 λe w'=>e=.returned (.bool false)/\w'=w1))(i:Hid (∀w1,am w w1->ao 206 #[ae pa len pc,af xd,ab 2] w1 λe w'=>e=.returned (.bool false)/\w'=w1))(j:Hid (∀w1,am w w1->ao 206 #[ae pa len pc,af Df,ab 1] w1 λe w'=>e=.returned (.bool false)/\w'=w1))(k:Hid (∀w1,am w w1->ao 208 #[.agg #[ae a 4 c,ab self],ae pa len pc] w1 (ku (N+1) o w1))):ao 202 #[.agg #[ae a 4 c,ab self],ae pa len pc] w (ku (N+1) o w):=by
 go_enter func202,ntmps202;go_wp2_with fail;refine(h _ AM.1).mono ?_;rintro e w1 ⟨rfl,n⟩;obtain⟨m,f,F,G⟩:=AN n;have HB:=aq m;have g:=aq f;have D:w.heap.size<w1.heap.size:=by have:=f.2.2;omega
 clear n m f h;go_wp2_with fail;refine(i _ HB).mono ?_;rintro e y ⟨rfl,rfl⟩;go_wp2_with fail;refine(j _ HB).mono ?_;rintro e y ⟨rfl,rfl⟩;go_wp2_with fail;refine(k _ HB).mono ?_;rintro e H ⟨b,r,rfl,d⟩;have p:=aq (g.below d.1);have q:=λs t u x=>aq (wZ HB (iv _ 1) g.2.2 d s t u x);obtain⟨⟨z,A,B,C⟩,⟨f0,f1,f2,f3⟩,E⟩:=p;have l:dB (N+1) b=.agg #[ab b.1.1,ab b.1.2.1,af b.1.2.2,ae b.2.1.1 b.2.2.length b.2.1.2]:=rfl;rw[l];clear d k i j l;go_wp2_with fail;exact ay (v:=.tuple #[.agg #[ab b.1.1,ab b.1.2.1,af b.1.2.2,ae b.2.1.1 b.2.2.length b.2.1.2],.bool r]) (by simp[results,results202,go_sem,z,A,B,C]) rfl (q _ _ _ _)
theorem iK(w:ag)(s0 s1 a b c d:ar)(t1 t2 t3:TypeId):am w (((w.alloc (.cells #[s0,s1] t1)).alloc (.cells #[a,b,c,d] t2)).alloc (.cells #[ab 0,ab 0,af .empty,ae none 0 0] t3))/\ oo (w.heap.size+1+1) (((w.alloc (.cells #[s0,s1] t1)).alloc (.cells #[a,b,c,d] t2)).alloc (.cells #[ab 0,ab 0,af .empty,ae none 0 0] t3)):=by
 refine⟨((aS _ _).alloc (by simp) _).alloc (by simp;omega) _,⟨?_,?_,?_,?_⟩,⟨?_,?_,?_,?_⟩,?_⟩<;>simp[go_sem]
theorem Na{w W:ag}{s0 s1 c d e f y0 y1 y2 a:ar}{t1 t2 t3 t4:TypeId}(b:(((w.alloc (.cells #[s0,s1] t1)).alloc (.cells #[c,d,e,f] t2)).alloc (.cells #[ab 0,ab 0,af .empty,ae none 0 0] t3)).alloc (.cells #[y0,y1,y2,a] t4)=W):am w W/\oo (w.heap.size+1+1) W/\ (W.cell? ⟨w.heap.size+1+1+1,0,none⟩=some y0/\W.cell? ⟨w.heap.size+1+1+1,1,none⟩=some y1/\W.cell? ⟨w.heap.size+1+1+1,2,none⟩=some y2/\W.cell? ⟨w.heap.size+1+1+1,3,none⟩=some a)/\w.heap.size+1+1+1<W.heap.size:=by
 subst b;refine⟨nO _ _ _ _ _,⟨⟨?_,?_,?_,?_⟩,⟨?_,?_,?_,?_⟩,?_⟩,⟨?_,?_,?_,?_⟩,?_⟩<;>simp[go_sem]
theorem Qi(N:Nat)(o:Option (Tm (N+1)))(a:au)(d:Int)(e:ap)(xa:au)(f xc:Nat)(c:Nat)(self:Int)(w:ag)(b:Hid (o=none)):ao 189 #[.agg #[ae a 4 c,ab self],.agg #[ab 6,ab d,af e,ae xa f xc]] w (ku (N+1) o w):=by
 go_enter func189,ntmps189;go_wp2_with fail;rw[b.out];exact ay (v:=.tuple #[.agg #[ab 0,ab 0,af .empty,ae none 0 0],.bool false]) (by simp[results,results189,go_sem];rfl) rfl (kT (iK w _ _ _ _ _ _ _ _ _).1)
theorem Qj(N:Nat)(o:Option (Tm (N+1)))(a:au)(p:Int)(q:ap)(xa:au)(g xc:Nat)(c:Nat)(self:Int)(w:ag)(e:Hid (∀w1,am w w1->ao 202 #[.agg #[ae a 4 c,ab self],ae xa g xc] w1 (ku (N+1) o w1))):ao 189 #[.agg #[ae a 4 c,ab self],.agg #[ab 4,ab p,af q,ae xa g xc]] w (ku (N+1) o w):=by
 go_enter func189,ntmps189;go_wp2_with fail;refine(e _ (iK w _ _ _ _ _ _ _ _ _).1).mono ?_;rintro x z ⟨b,j,rfl,d⟩;have h:=aq ((iK w _ _ _ _ _ _ _ _ _).2.below d.1);have i:=λk l m n=>aq (wZ (iK w _ _ _ _ _ _ _ _ _).1 (iv w.heap.size 2) (iK w _ _ _ _ _ _ _ _ _).2.2.2 d k l m n);obtain⟨⟨r,s,t,u⟩,⟨f0,f1,f2,f3⟩,y⟩:=h;have f:dB (N+1) b=.agg #[ab b.1.1,ab b.1.2.1,af b.1.2.2,ae b.2.1.1 b.2.2.length b.2.1.2]:=rfl;rw[f];clear d e f;go_wp2_with fail;exact ay (v:=.tuple #[.agg #[ab b.1.1,ab b.1.2.1,af b.1.2.2,ae b.2.1.1 b.2.2.length b.2.1.2],.bool j]) (by simp[results,results189,go_sem,r,s,t,u]) rfl (i _ _ _ _)
theorem PB(N:Nat)(o:Option (Tm (N+1)))(a:au)(b:Int)(h:Int)(i:ap)(xa:au)(j xc:Nat)(n:Nat)(r:n<=N)(x:Tm (n+1))(c:Nat)(self:Int)(w:ag)(E:¬b=4)(F:¬b=5)(G:¬b=6)(m:Hid (aJ ⟨n+1,x⟩))(f:Hid (∀w1,am w w1->ao 56 #[.agg #[ab b,ab h,af i,ae xa j xc]] w1 λe w'=>∃y:Tm (n+1),e=.returned (dB (n+1) y)/\Hid (am w1 w'/\In w'.heap.size w' (n+1) y/\cv (λq=>w1.heap.size<=q) (n+1) y/\aB (n+1) y (n+1) x=true)))(l:Hid (o=some (aZ (N+1) (n+1) x))):ao 189 #[.agg #[ae a 4 c,ab self],.agg #[ab b,ab h,af i,ae xa j xc]] w (ku (N+1) o w):=by
 go_enter func189,ntmps189;go_wp2_with fail;refine(f _ (iK w _ _ _ _ _ _ _ _ _).1).mono ?_;rintro e I ⟨y,rfl,d⟩;have k:=aq ((iK w _ _ _ _ _ _ _ _ _).2.below d.1);have p:=λs t u z=>aq (xb r m (iK w _ _ _ _ _ _ _ _ _).1 (iv w.heap.size 2) (iK w _ _ _ _ _ _ _ _ _).2.2.2 d (aA _ _) true s t u z);obtain⟨⟨A,B,C,D⟩,⟨f0,f1,f2,f3⟩,H⟩:=k;have g:dB (n+1) y=.agg #[ab y.1.1,ab y.1.2.1,af y.1.2.2,ae y.2.1.1 y.2.2.length y.2.1.2]:=rfl;rw[g];clear d f g;go_wp2_with fail;rw[l.out];exact ay (v:=.tuple #[.agg #[ab y.1.1,ab y.1.2.1,af y.1.2.2,ae y.2.1.1 y.2.2.length y.2.1.2],.bool true]) (by simp[results,results189,go_sem,A,B,C,D]) rfl (p _ _ _ _)
theorem Qk(N:Nat)(o:Option (Tm (N+1)))(b bo:Nat)(k:Nat)(l:Int)(M:ap)(xa:au)(Q xc:Nat)(n:Nat)(E:n<=N)(x:Tm (n+1))(c:Nat)(self:Int)(w:ag)(A:l=(k:Int))(ak:k<4)(aj:b<w.heap.size)(F:dC w b (bo+k*4) (n+1) x)(t:Hid (aJ ⟨n+1,x⟩))(s:Hid (∀w1,am w w1->ao 56 #[.agg #[ab x.1.1,ab x.1.2.1,af x.1.2.2,ae x.2.1.1 x.2.2.length x.2.1.2]] w1 λe w'=>∃y:Tm (n+1),e=.returned (dB (n+1) y)/\Hid (am w1 w'/\In w'.heap.size w' (n+1) y/\cv (λq=>w1.heap.size<=q) (n+1) y/\aB (n+1) y (n+1) x=true)))(p:Hid (∀w1,ao 197 #[.agg #[ab x.1.1,ab x.1.2.1,af x.1.2.2,ae x.2.1.1 x.2.2.length x.2.1.2]] w1 λe w'=>e=.returned (.bool (!(x.1.1==6)))/\am w1 w'))(r:Hid (o=if (!(x.1.1==6))=true then some (aZ (N+1) (n+1) x)else none)):ao 189 #[.agg #[ae (some ⟨b,bo,none⟩) 4 c,ab self],.agg #[ab 5,ab l,af M,ae xa Q xc]] w (ku (N+1) o w):=by
 go_enter func189,ntmps189;obtain⟨K,L,O,P⟩:=F;subst A;generalize x.2.2.length=R at*;generalize (!(x.1.1==6))=cl at*;have al:(0:Int)<=(k:Int):=by omega
 have an:(k:Int)<4:=by omega
 have ah:b<w.heap.size+1:=by omega
 have ai:b<w.heap.size+1+1:=by omega
 go_wp2_with fail;generalize i:World.alloc (World.alloc (World.alloc (World.alloc w _) _) _) _=X;obtain⟨g,h,⟨Y,Z,aa,ad⟩,B⟩:=Na i;have HB:=aq g;have f:=aq h;clear i g h K L O P;have z:∀y:Tm (n+1),dB (n+1) y=.agg #[ab y.1.1,ab y.1.2.1,af y.1.2.2,ae y.2.1.1 y.2.2.length y.2.1.2]:=λ_=>rfl
 go_region_held3 (λw'=>w'.cell? ⟨w.heap.size+1+1+1,0,none⟩=some (ab x.1.1)/\w'.cell? ⟨w.heap.size+1+1+1,1,none⟩=some (ab x.1.2.1)/\w'.cell? ⟨w.heap.size+1+1+1,2,none⟩=some (af x.1.2.2)/\w'.cell? ⟨w.heap.size+1+1+1,3,none⟩=some (ae x.2.1.1 R x.2.1.2))
  (go_keep) ((first|(go_at_call 56;refine(s _ HB.drew).mono ?_;rintro e j ⟨y,rfl,a⟩;rw[z];have C:=aw (cW a.1);have W:Hid (am w j):=(HB.drew).trans (a.1.mono HB.size);have ar:w.heap.size+1+1+1<j.heap.size:=aW B a.1.size)|(go_at_call 197;refine(p _).mono ?_;rintro e ax ⟨rfl,d⟩;have D:=aw d;have m:=aq ((f.below (cW a.1)).below d);obtain⟨⟨S,T,U,V⟩,⟨f0,f1,f2,f3⟩,av⟩:=m)))
 have u:=λG H I J=>aq (xb E t HB.drew (iv w.heap.size 2) f.2.2 a d cl G H I J);clear a C D d;go_wp2_with fail;rw[r.out];exact ay (v:=.tuple #[.agg #[ab y.1.1,ab y.1.2.1,af y.1.2.2,ae y.2.1.1 y.2.2.length y.2.1.2],.bool cl]) (by simp[results,results189,go_sem,S,T,U,V]) rfl (u _ _ _ _)
def xG(m n:Nat)(self:Int)(f:Tm n->Option (Tm (m+n)))(p:List (Tm n)):Option (Tm (m+n+1)):=
 if uC n p qp 0 then some (bW 3 self (m+n))
 else if uC n p xd 2 then (p[1]?).bind λa=>(p[2]?).bind λc=>(f a).bind λa=>(f c).bind λc=>ut (m+n) a c
 else if uC n p Df 1 then (p[1]?).bind λa=>if aT n a then some (aZ (m+n+1) n a)else none
 else (cV f p).map (dr (m+n))
theorem Mg(m:Nat)(b:List (Tm m))(self:Int)(n:Nat)(x:Tm (n+1))(a:x.1.1=4):vl m b self (n+1) x=xG m n self (λy=>vl m b self n y) x.2.2:=by simp[vl,a,xG]
theorem Mf(m:Nat)(b:List (Tm m))(self:Int)(n:Nat)(x:Tm (n+1))(a:x.1.1=6):vl m b self (n+1) x=none:=by simp[vl,a]
theorem Gq(m:Nat)(b:List (Tm m))(self:Int)(n:Nat)(x:Tm (n+1))(a:x.1.1≠4)(c:x.1.1≠5)(d:x.1.1≠6):vl m b self (n+1) x=some (aZ (m+n+1) (n+1) x):=by simp[vl,a,c,d]
theorem PE(m:Nat)(b:List (Tm m))(self:Int)(n:Nat)(x:Tm (n+1))(y:Tm m)(k:Nat)(a:x.1.1=5)(c:x.1.2.1=(k:Int))(d:b[k]?=some y):vl m b self (n+1) x=if b8 ⟨m,y⟩=6 then none else some (aZ (m+n+1) m y):=by
 simp[vl,a,c,d]
theorem BR{n:Nat}{p:List (Tm n)}{s:ap}{k:Nat}(a:uC n p s k=true):p.length=1+k:=by
 by_cases b:p.length=1+k
 ·exact b
 ·rw[FZ b]at a;cases a
theorem KU{N:Nat}{o:Option (Tm N)}(d:∀a,o=some a->aJ ⟨N,a⟩):PU o:=by
 intro a g e;have c:=d a g;cases N with
 | zero=>exact(dv c).elim
 | succ N=>
  have b:=c (bL N a) (by simp[aC,bL]);have f:a.1.1=1:=e;simp only[cN,bL,f,rh,aK,de]at b;exact⟨fK b.1.2.1,fK b.1.2.2⟩
theorem Fj(m:Nat)(b:List (Tm m))(self:Int)(O:gE m b=true)(N:1<=self/\self<=99)(n:Nat)(ih:OL m b self n)(p:List (Tm n))(pa:au)(pc:Nat)(a:au)(c B:Nat)(w:ag)(L:p.length<=8)(f:fU B w n p pa)(u:∀y∈p,aJ ⟨n,y⟩)(C:fU B w m b a)(e:B<=w.heap.size):ao 202 #[.agg #[ae a 4 c,ab self],ae pa p.length pc] w (ku (m+n+1) (xG m n self (λy=>vl m b self n y) p) w):=by
 have D:=λW k (Q:k<=8) g (d:am w g)=>Eb n p pa pc B W k g (f.below (d.mono e)) L Q;have i:=D qp 0 (by omega);have l:=D xd 2 (by omega);have q:=D Df 1 (by omega);have K:∀y∈b,aJ ⟨m,y⟩:=λy h=>((iE O).2 y h).2.1;cases e1:uC n p qp 0
 ·rw[e1]at i;cases e2:uC n p xd 2
  ·rw[e2]at l;cases e3:uC n p Df 1
   ·rw[e3]at q;refine N7 (m+n) _ a c self pa p.length pc w i l q ?_;intro g d;have P:=C9 m b self n ih p p.length rfl pa pc a c B g L (f.below (d.mono e)) u (C.below (d.mono e)) (aF e d.size);simpa [xG,e1,e2,e3]using P
   ·rw[e3]at q;have r:=BR e3;rcases f with f|⟨G,po,rfl,R,f⟩
    ·rw[f]at r;simp at r
    ·obtain⟨y,h⟩:∃y,p[1]?=some y:=⟨p[1]'(by omega),aN _⟩;obtain⟨t,v⟩:=f 1 y h;have s:=u y (aL h);have z:xG m n self (λy=>vl m b self n y) p=if aT n y=true then some (aZ (m+n+1) n y)else none:=by simp[xG,e1,e2,e3,h]
     rw[z];cases n with
     | zero=>exact t.elim
     | succ n=>
     rw[show p.length=2 by omega]at i l q ⊢;refine PG (m+(n+1)) _ a c self G po n (by omega) y (aT (n+1) y) pc w i l q (by omega) (by simpa using t) s ?_ ?_ rfl
     ·intro g d;exact iG (n+1) y B g (v.below (d.mono e)) (aF e d.size) s
     ·intro g d;exact jf (n+1) y B g (v.below (d.mono e)) (aF e d.size)
  ·rw[e2]at l;have r:=BR e2;rcases f with f|⟨G,po,rfl,R,f⟩
   ·rw[f]at r;simp at r
   ·obtain⟨x,E⟩:∃x,p[1]?=some x:=⟨p[1]'(by omega),aN _⟩;obtain⟨y,h⟩:∃y,p[2]?=some y:=⟨p[2]'(by omega),aN _⟩;obtain⟨S,T⟩:=f 1 x E;obtain⟨t,v⟩:=f 2 y h;have M:=u x (aL E);have s:=u y (aL h);have z:xG m n self (λy=>vl m b self n y) p=xC (vl m b self n x) (vl m b self n y):=by simp[xG,e1,e2,E,h,xC]
    rw[z];have U:=KU λJ F=>wY m b self N K n x M J F;have V:=KU λJ F=>wY m b self N K n y s J F;cases n with
    | zero=>exact t.elim
    | succ n=>
    rw[show p.length=3 by omega]at i l ⊢;refine PF (m+(n+1)) _ a c self G po x.1.1 x.1.2.1 x.1.2.2 x.2.1.1 x.2.2.length x.2.1.2 y.1.1 y.1.2.1 y.1.2.2 y.2.1.1 y.2.2.length y.2.1.2 pc w i l (by omega) (by simpa [dC]using S) (by simpa [dC]using t) ?_;intro g d;refine LU (m+(n+1)) _ _ U V a c self x.1.1 x.1.2.1 x.1.2.2 x.2.1.1 x.2.2.length x.2.1.2 y.1.1 y.1.2.1 y.1.2.2 y.2.1.1 y.2.2.length y.2.1.2 g ?_ ?_
    ·intro H o;refine tP (m+n) _ a c self x.1.1 x.1.2.1 x.1.2.2 x.2.1.1 x.2.2.length x.2.1.2 H ?_;intro I A;have j:=(d.trans ((o.trans (A.mono o.size)).mono d.size));exact ih x a c B I (T.below (j.mono e)) M (C.below (j.mono e)) (aF e j.size)
    ·intro H o;refine tP (m+n) _ a c self y.1.1 y.1.2.1 y.1.2.2 y.2.1.1 y.2.2.length y.2.1.2 H ?_;intro I A;have j:=(d.trans ((o.trans (A.mono o.size)).mono d.size));exact ih y a c B I (v.below (j.mono e)) s (C.below (j.mono e)) (aF e j.size)
 ·rw[e1]at i;exact N8 (m+n) _ a c self ⟨by omega,by omega⟩ pa p.length pc w i (by simp[Hid,xG,e1])
theorem Jt(m:Nat)(b:List (Tm m))(self:Int)(z:gE m b=true)(J:1<=self/\self<=99)(n:Nat):OL m b self n:=by
 induction n with
 | zero=>intro x i c p o u;exact u.elim
 | succ n ih=>
  intro x i c p o u t g f;obtain⟨y,H⟩:=iE z;have s:=t (bL n x) (by simp[aC,bL]);have I:x.2.2.length<=8:=mR (bL n x) s;by_cases r:x.1.1=6
  ·have e:=Qi (m+n) (vl m b self (n+1) x) i x.1.2.1 x.1.2.2 x.2.1.1 x.2.2.length x.2.1.2 c self o (Mf m b self n x r);rw[<-r]at e;exact e
  ·by_cases j:x.1.1=5
   ·have O:0<=x.1.2.1/\x.1.2.1<=3:=by
      have D:¬(5:Int)=1:=by decide
      have E:¬(5:Int)=2:=by decide
      have F:¬(5:Int)=3:=by decide
      have G:¬(5:Int)=4:=by decide
      simp only[cN,bL,j,rh,aK,de,D,E,F,G,if_false]at s;exact⟨fK s.1.2.1,fK s.1.2.2⟩
    obtain⟨k,A⟩:∃k:Nat,x.1.2.1=(k:Int):=⟨x.1.2.1.toNat,by omega⟩;obtain⟨a,l⟩:∃a,b[k]?=some a:=⟨b[k]'(by omega),aN _⟩;have v:=(H a (aL l)).2.1;have C:=PE m b self n x a k j A l;have M:=g;rcases g with g|⟨B,bo,rfl,N,g⟩
    ·rw[g]at y;simp at y
    ·obtain⟨K,L⟩:=g k a l;cases m with
     | zero=>exact(dv v).elim
     | succ m=>
     have e:=Qk (m+1+n) (vl (m+1) b self (n+1) x) B bo k x.1.2.1 x.1.2.2 x.2.1.1 x.2.2.length x.2.1.2 m (by omega) a c self o A (by omega) (by omega) K v
      (λh d=>iG (m+1) a p h (L.below (d.mono f)) (aF f d.size) v)
      (λh=>jL a.1.1 a.1.2.1 a.1.2.2 a.2.1.1 a.2.2.length a.2.1.2 h)
      (by
       show vl (m+1) b self (n+1) x=_;rw[C];by_cases w:a.1.1=6
       ·simp[b8,w]
       ·simp[b8,w])
     rw[<-j]at e;exact e
   ·by_cases q:x.1.1=4
    ·have e:=Qj (m+n) (vl m b self (n+1) x) i x.1.2.1 x.1.2.2 x.2.1.1 x.2.2.length x.2.1.2 c self o (by
       intro h d;rw[Mg m b self n x q]
       exact Fj m b self z J n ih x.2.2 x.2.1.1 x.2.1.2 i c p h I (fU.below (d.mono f) u.2) (λa l=>bi n x a t l) (g.below (d.mono f)) (aF f d.size))
     rw[<-q]at e;exact e
    ·exact PB (m+n) (vl m b self (n+1) x) i x.1.1 x.1.2.1 x.1.2.2 x.2.1.1 x.2.2.length x.2.1.2 n (by omega) x c self o q j r t
       (λh d=>iG (n+1) x p h (u.below (d.mono f)) (aF f d.size) t) (Gq m b self n x q j r)
def xg(N:Nat):Tm (N+1):=bW 0 0 N
def AZ(N:Nat)(E:Int)(o:Option (Tm (N+1)))(w:ag)(e:Ending)(w':ag):Prop:=
 ∃a:Tm (N+1),e=.returned (.tuple #[dB (N+1) a,ab (Gg E (oz E o))])/\Hid (am w w'/\In w'.heap.size w' (N+1) a/\cv (λb=>w.heap.size<=b) (N+1) a/\aB (N+1) a (N+1) ((oz E o).getD (xg N))=true)
theorem px{N:Nat}{E:Int}{o:Option (Tm (N+1))}{w w':ag}{a:Int}(c:am w w')(b:oz E o=none)(d:a=Gg E (oz E o)):AZ N E o w (.returned (.tuple #[.agg #[ab 0,ab 0,af .empty,ae none 0 0],ab a])) w':=by
 refine⟨xg N,by rw[d];rfl,c,(lN N 0 0 jK jK _ _ (λ_=>True)).1,(lN N 0 0 jK jK 0 w _).2,?_⟩;rw[b];exact xY N 0 0
theorem NS{N:Nat}{E:Int}{o:Option (Tm (N+1))}{a:Tm (N+1)}{w w1 w2 j:ag}{y:Tm (N+1)}{q:Nat}(e:E=0)(n:o=some a)(l:bG (N+1) a=0)(f:am w w1)(p:w.heap.size<=q)(t:q<w1.heap.size)(h:am w1 w2)(r:In w2.heap.size w2 (N+1) y)(i:cv (λq=>w1.heap.size<=q) (N+1) y)(s:aB (N+1) y (N+1) a=true)(c:am w2 j)(v0 v1 v2 v3:ar):AZ N E o w (.returned (.tuple #[.agg #[ab y.1.1,ab y.1.2.1,af y.1.2.2,ae y.2.1.1 y.2.2.length y.2.1.2],ab 0])) (cZ j q 0 v0 v1 v2 v3):=by
 have g:=f.size;have k:=(f.trans (h.mono g)).trans (c.mono (aF g h.size));have d:oz E o=some a:=by simp[oz,e,n,l]
 refine⟨y,by rw[d];simp[Gg,e,dB],dn k p _ _ _ _,?_,i.mono λb m=>by omega,by rw[d];exact s⟩;rw[bD];exact In.off (P:=λb=>w1.heap.size<=b) (λb m=>bk (by omega) _ _ _ _) i ((r.below c).mono c.size)
theorem CF{c:Int}{bd:Bool}{self:Int}(a:Gh c bd self=0):c=0/\bd=true/\1<=self/\self<=99:=by
 unfold Gh at a;split at a
 ·split at a
  ·split at a
   ·rename_i b d e;exact⟨b,d,e⟩
   ·cases a
  ·cases a
 ·rename_i b;exact absurd a b
theorem Js{m n:Nat}{b:List (Tm m)}{self:Int}{x:Tm (n+1)}{a:Tm (m+n+1)}(c:bG (n+1) x=0)(d:gE m b=true)(h:vl m b self (n+1) x=some a):(aC (m+n+1) a).length<=2097152:=by
 have f:=oB c;have e:=Dd m b self 201 (by omega) (λi g=>oB ((iE d).2 i g).1) (n+1) x a h;have:201*(aC (n+1) x).length<=201*201:=Nat.mul_le_mul_left 201 f;exact aF e (by omega)
theorem uN(w:ag)(a b c d:ar)(t1 t2:TypeId):am w ((w.alloc (.cells #[a,b,c,d] t1)).alloc (.cells #[ab 0,ab 0,af .empty,ae none 0 0] t2))/\oo (w.heap.size+1) ((w.alloc (.cells #[a,b,c,d] t1)).alloc (.cells #[ab 0,ab 0,af .empty,ae none 0 0] t2)):=by
 refine⟨(aS _ _).alloc (by simp) _,⟨?_,?_,?_,?_⟩,⟨?_,?_,?_,?_⟩,?_⟩<;>simp[go_sem]
theorem Fi{w w':ag}{b c d e y0 y1 y2 f:ar}{t1 t2:TypeId}(g:Below ((w.alloc (.cells #[b,c,d,e] t1)).alloc (.cells #[y0,y1,y2,f] t2)).heap.size ((w.alloc (.cells #[b,c,d,e] t1)).alloc (.cells #[y0,y1,y2,f] t2)) w'):ah w' w.heap.size 0 b/\ah w' w.heap.size 1 c/\ah w' w.heap.size 2 d/\ah w' w.heap.size 3 e:=by
 have a:=λo=>g.cell (p:=⟨w.heap.size,o,none⟩) (by simp;omega);exact⟨(a 0).trans (by simp[go_sem]),(a 1).trans (by simp[go_sem]),(a 2).trans (by simp[go_sem]),(a 3).trans (by simp[go_sem])⟩
theorem CG(N:Nat)(o:Option (Tm (N+1)))(a:au)(U c:Nat)(self:Int)(Z aa:Int)(ad:ap)(xa:au)(ah xc:Nat)(l:Int)(bd:Bool)(w:ag)(aj:Hid (∀w1,am w w1->ao 53 #[.agg #[ab Z,ab aa,af ad,ae xa ah xc]] w1 λe w'=>e=.returned (ab l)/\am w1 w'))(ai:Hid (∀w1,am w w1->ao 183 #[ae a U c] w1 λe w'=>e=.returned (.bool bd)/\am w1 w'))(r:Hid (Gh l bd self=0->∀w1,am w w1->ao 189 #[.agg #[ae a U c,ab self],.agg #[ab Z,ab aa,af ad,ae xa ah xc]] w1 (ku (N+1) o w1)))(p:Hid (Gh l bd self=0->∀(y f:Tm (N+1))(w1:ag),o=some f->aB (N+1) y (N+1) f=true->In w1.heap.size w1 (N+1) y->ao 53 #[.agg #[ab y.1.1,ab y.1.2.1,af y.1.2.2,ae y.2.1.1 y.2.2.length y.2.1.2]] w1 λe w'=>e=.returned (ab (bG (N+1) f))/\am w1 w')):ao 155 #[.agg #[ab Z,ab aa,af ad,ae xa ah xc],ae a U c,ab self] w (AZ N (Gh l bd self) o w):=by
 obtain⟨E,Q⟩:∃E,E=Gh l bd self:=⟨_,rfl⟩;rw[<-Q]at r p ⊢;have m:=aq Q;clear Q;go_enter func155,ntmps155;go_wp2_with fail;refine(aj _ (uN w _ _ _ _ _ _).1).mono ?_;rintro e w1 ⟨rfl,I⟩;have ar:=aq (Fi I);have A:Hid (am w w1):=(uN w _ _ _ _ _ _).1.trans (I.mono (uN w _ _ _ _ _ _).1.size);have F:=aq ((uN w _ _ _ _ _ _).2.below I);clear I aj;by_cases d:l=0
 case neg=>
  have aJ:(l !=0)=true:=by simpa using d
  have b:Hid (E=l/\l≠0):=⟨by rw[m.out];simp[Gh,d],d⟩;obtain⟨⟨g,h,i,j⟩,⟨f0,f1,f2,f3⟩,x⟩:=F.out;clear r m d p;go_wp2_with fail;exact ay (v:=.tuple #[.agg #[ab 0,ab 0,af .empty,ae none 0 0],ab l]) (by simp[results,results155,go_sem,g,h,i,j];rfl) rfl (px (dn A (by omega) _ _ _ _) (by simp[oz,b.out.1,b.out.2]) (by simp[Gg,b.out.1,b.out.2]))
 have aJ:(l !=0)=false:=by simp[d]
 go_wp2_with fail;refine(ai _ A).mono ?_;rintro e aA ⟨rfl,J⟩;have av:=aq (oA (Nat.lt_of_succ_lt F.2.2) J ar);have n:Hid (am w aA):=A.trans (J.mono A.size);have q:=aq (F.below J);clear J ai A ar F;cases bd
 ·have b:Hid (E=5):=by rw[Hid,m.out];simp[Gh,d]
  obtain⟨⟨g,h,i,j⟩,⟨f0,f1,f2,f3⟩,x⟩:=q.out;clear r m d p;go_wp2_with fail;exact ay (v:=.tuple #[.agg #[ab 0,ab 0,af .empty,ae none 0 0],ab 5]) (by simp[results,results155,go_sem,g,h,i,j];rfl) rfl (px (dn n (by omega) _ _ _ _) (by simp[oz,b.out]) (by simp[Gg,b.out]))
 ·by_cases ax:self<1
  ·have aF:decide (self<1)=true:=by simpa using ax
   have b:Hid (E=1):=by rw[Hid,m.out];simp only[Gh,d,de];rw[if_neg (by omega)]
   obtain⟨⟨g,h,i,j⟩,⟨f0,f1,f2,f3⟩,x⟩:=q.out;clear r m d p;go_wp2_with fail;exact ay (v:=.tuple #[.agg #[ab 0,ab 0,af .empty,ae none 0 0],ab 1]) (by simp[results,results155,go_sem,g,h,i,j];rfl) rfl (px (dn n (by omega) _ _ _ _) (by simp[oz,b.out]) (by simp[Gg,b.out]))
  ·have aF:decide (self<1)=false:=by simpa using ax
   by_cases az:99<self
   ·have aG:decide (99<self)=true:=by simpa using az
    have b:Hid (E=1):=by rw[Hid,m.out];simp only[Gh,d,de];rw[if_neg (by omega)]
    obtain⟨⟨g,h,i,j⟩,⟨f0,f1,f2,f3⟩,x⟩:=q.out;clear r m d p;go_wp2_with fail;exact ay (v:=.tuple #[.agg #[ab 0,ab 0,af .empty,ae none 0 0],ab 1]) (by simp[results,results155,go_sem,g,h,i,j];rfl) rfl (px (dn n (by omega) _ _ _ _) (by simp[oz,b.out]) (by simp[Gg,b.out]))
   ·have aG:decide (99<self)=false:=by simpa using az
    have B:Hid (E=0):=by rw[Hid,m.out];simp only[Gh,d,de];rw[if_pos (by omega)]
    obtain⟨aN,aO,aP,aQ⟩:=av.out;have aT:w.heap.size<aA.heap.size:=Nat.lt_of_succ_lt q.2.2;clear m d;go_wp2_with fail;refine(r B _ n).mono ?_;rintro e z ⟨y,aM,rfl,k⟩;have K:Hid (am w z):=n.trans (k.1.mono n.size);have G:=aq (q.below k.1);have aw:dB (N+1) y=.agg #[ab y.1.1,ab y.1.2.1,af y.1.2.2,ae y.2.1.1 y.2.2.length y.2.1.2]:=rfl;rw[aw];clear r aw aN aO aP aQ av;cases aM
    ·have ak:Hid (o=none):=by
       have:=k.2.2.2.1;cases o with
       | none=>rfl
       | some f=>cases this
     obtain⟨⟨g,h,i,j⟩,⟨f0,f1,f2,f3⟩,x⟩:=G.out;clear k p;go_wp2_with fail;exact ay (v:=.tuple #[.agg #[ab 0,ab 0,af .empty,ae none 0 0],ab 7]) (by simp[results,results155,go_sem,g,h,i,j,x];rfl) rfl (px ((dn K (by omega) _ _ _ _).alloc (by rw[bD];omega) _) (by simp[oz,ak.out]) (by simp[Gg,oz,ak.out,B.out]))
    ·obtain⟨f,T⟩:∃f,o=some f:=by
       have:=k.2.2.2.1;cases o with
       | none=>cases this
       | some f=>exact⟨f,rfl⟩
     have H:=aq T;have an:=aq (k.2.2.2.2 f T)
     have O:Hid (∀w1,am z w1->ao 53 #[.agg #[ab y.1.1,ab y.1.2.1,af y.1.2.2,ae y.2.1.1 y.2.2.length y.2.1.2]] w1 λe w'=>e=.returned (ab (bG (N+1) f))/\am w1 w'):=
      λw1 t=>p B y f w1 H an ((k.2.1.below t).mono t.size)
     obtain⟨s,S⟩:∃s,s=bG (N+1) f:=⟨_,rfl⟩;rw[<-S]at O;have M:=aq S;have P:=λ(D:ag)(aI:am z D)(aH:s=0) V W X Y=>aq (NS (E:=E) B H (M.symm.trans aH) n (iv _ 1) q.2.2 k.1 k.2.1 k.2.2.1 an aI V W X Y);clear T S p k q n;go_wp2_with fail;refine(O _ (aS _ _)).mono ?_;rintro e D ⟨rfl,R⟩;obtain⟨⟨t0,t1,t2,t3⟩,_⟩:=FA R;have L:Hid (am z D):=(aS _ _).trans (R.mono (by simp));have aC:=aq (G.below L);have aE:Hid (am w D):=K.trans (L.mono K.size);obtain⟨⟨g,h,i,j⟩,⟨f0,f1,f2,f3⟩,x⟩:=aC;have aL:¬(w.heap.size+1=z.heap.size):=by have:=G.2.2;omega
     have aR:¬(z.heap.size=w.heap.size+1):=λe=>aL e.symm;clear R O G;by_cases u:s=0
     ·have aK:(s !=0)=false:=by simp[u]
      have aD:=λV W X Y=>P D L u V W X Y;clear P u;go_wp2_with fail;exact ay (v:=.tuple #[.agg #[ab y.1.1,ab y.1.2.1,af y.1.2.2,ae y.2.1.1 y.2.2.length y.2.1.2],ab 0]) (by simp[results,results155,go_sem,g,h,i,j]) rfl (aD _ _ _ _)
     ·have aK:(s !=0)=true:=by simpa using u
      have al:=aq u;clear P u;go_wp2_with fail;exact ay (v:=.tuple #[.agg #[ab 0,ab 0,af .empty,ae none 0 0],ab 7]) (by simp[results,results155,go_sem,g,h,i,j];rfl) rfl (px (dn aE (by omega) _ _ _ _) (by have t:=M.out;have C:=al.out;rw[t]at C;simp[oz,H.out,C]) (by have t:=M.out;have C:=al.out;rw[t]at C;simp[Gg,oz,H.out,B.out,C]))
theorem EK(n m:Nat)(x:Tm (n+1))(b:List (Tm m))(a:au)(c B:Nat)(self:Int)(w:ag)(p:In B w (n+1) x)(k:fU B w m b a)(f:B<=w.heap.size)(r:(aC (n+1) x).length<=2097152)(t:b.length<=9223372036854775807)(s:∀y∈b,(aC m y).length<=2097152):ao 155 #[dB (n+1) x,ae a b.length c,ab self] w (AZ (m+n) (Gh (bG (n+1) x) (gE m b) self) (vl m b self (n+1) x) w):=by
 refine CG (m+n) _ a b.length c self x.1.1 x.1.2.1 x.1.2.2 x.2.1.1 x.2.2.length x.2.1.2 (bG (n+1) x) (gE m b) w ?_ ?_ ?_ ?_
 ·intro e d;exact ed (n+1) x B e (p.below (d.mono f)) (aF f d.size) r
 ·intro e d;exact A6 m b a c B e (k.below (d.mono f)) t s (aF f d.size)
 ·intro i e d;obtain⟨h,g,j⟩:=CF i;have q:=(iE g).1;rw[q];exact Jt m b self g j (n+1) x a c B e (p.below (d.mono f)) (aU.2 (bJ.1 h).1) (k.below (d.mono f)) (aF f d.size)
 ·intro i y A e z o u;obtain⟨h,g,j⟩:=CF i;have v:=Js h g z;have l:=ed (m+n+1) y e.heap.size e u (av _) (by rw[kR _ _ _ _ o];exact v);rw[bZ o]at l;exact l
theorem CJ{n m b a:Nat}{x:Tm n}{y:Tm m}{x':Tm b}{c:Tm a}(e:aB n x b x'=true)(k:aB m y a c=true):aB n x m y=aB b x' a c:=by
 cases d:aB b x' a c with
 | true=>exact bP _ _ _ _ _ _ e (bP _ _ _ _ _ _ d (dS _ _ _ _ k))
 | false=>
  cases e2:aB n x m y with
  | false=>rfl
  | true=>
   have f:=bP _ _ _ _ _ _ (dS _ _ _ _ e) (bP _ _ _ _ _ _ e2 k);rw[d]at f;cases f
def oR:Option (List An)->Option (List An)->Prop
 | none,none=>True
 | some b,some c=>aG eG b c=true
 | _,_=>False
theorem vI{x y:An}(a:eG x y=true):b8 x=b8 y:=by
 obtain⟨n,x⟩:=x;obtain⟨b,y⟩:=y;cases n with
 | zero=>simp[eG,aB]at a
 | succ n=>
  cases b with
  | zero=>simp[eG,aB]at a
  | succ b=>
   simp only[eG,aB,aK,co]at a;exact a.1.1.1
theorem uW{c β:Type}{f:c->β->Bool}{a:c}{b:β}(d:f a b=true):(p:List c)->(q:List β)->(i:Nat)->aG f p q=true->aG f (p.set i a) (q.set i b)=true
 | [],[],_,_=>by simp[aG]
 | [],_::_,_,h=>by simp[aG]at h
 | _::_,[],_,h=>by simp[aG]at h
 | x::p,y::q,0,h=>by
  simp only[aG,aK]at h;simp[aG,d,h.2]
 | x::p,y::q,i+1,h=>by
  simp only[aG,aK]at h;simp[aG,h.1,uW d p q i h.2]
theorem DS{b c:List An}{i:Nat}{t h:An}(f:aG eG b c=true)(j:eG t h=true):oR (vw b i t) (vw c i h):=by
 have o:=cT _ _ _ f;unfold vw;cases e:b[i]? with
 | none=>
  have a:c[i]?=none:=by
   rw[List.getElem?_eq_none_iff]at e ⊢;omega
  rw[a];trivial
 | some g=>
  obtain⟨n,m⟩:=aY.1 e;have a:c[i]?=some c[i]:=aN (by omega);rw[a];have k:eG g c[i]=true:=jQ _ _ _ f i _ _ e a;simp only;rw[<-vI k];by_cases d:b8 g=6
  ·rw[if_pos d,if_pos d];exact uW j _ _ _ f
  ·rw[if_neg d,if_neg d];have l:eG g t=eG c[i] h:=CJ k j;rw[<-l];cases eG g t
   ·simp[oR]
   ·simpa [oR]using f
theorem vv{n β o r:Type}(f:n->β->List An->Option (List An))(g:o->r->List An->Option (List An))(P:n->o->Bool)(Q:β->r->Bool):(p:List n)->(q:List β)->(a:List o)->(h:List r)->(∀x∈p,∀y∈q,∀x' k b c,P x x'=true->Q y k=true->aG eG b c=true->oR (f x y b) (g x' k c))->aG P p a=true->aG Q q h=true->∀b c,aG eG b c=true->oR (jb f p q b) (jb g a h c)
 | [],_,a,_,_,i,_,b,c,l=>by
  cases a with
  | nil=>simpa [jb,oR]using l
  | cons _ _=>simp[aG]at i
 | x::p,[],a,h,_,i,j,b,c,l=>by
  cases h with
  | nil=>cases a<;>simpa [jb,oR]using l
  | cons _ _=>simp[aG]at j
 | x::p,y::q,a,h,hf,i,j,b,c,l=>by
  cases a with
  | nil=>simp[aG]at i
  | cons x' a=>
   cases h with
   | nil=>simp[aG]at j
   | cons k h=>
    simp only[aG,aK]at i j;have e:=hf x (by simp) y (by simp) x' k b c i.1 j.1 l;simp only[jb];cases e1:f x y b with
    | none=>
     rw[e1]at e;cases m:g x' k c with
     | none=>simp[oR]
     | some _=>rw[m]at e;exact e.elim
    | some d=>
     rw[e1]at e;cases m:g x' k c with
     | none=>rw[m]at e;exact e.elim
     | some s=>
      rw[m]at e;simp only[dP];exact vv f g P Q p q a h (λx t y u=>hf x (by simp[t]) y (by simp[u])) i.2 j.2 d s e
theorem mQ:(n:Nat)->(p:Tm n)->(m:Nat)->(t:Tm m)->(d:Nat)->(j:Tm d)->(a:Nat)->(k:Tm a)->(b c:List An)->aB n p d j=true->aB m t a k=true->aG eG b c=true->oR (iB n p m t b) (iB d j a k c)
 | 0,_,_,_,_,_,_,_,_,_,h,_,_=>by simp[aB]at h
 | _+1,_,_,_,0,_,_,_,_,_,h,_,_=>by simp[aB]at h
 | _+1,_,0,_,_+1,_,_,_,_,_,_,h,_=>by simp[aB]at h
 | _+1,_,_+1,_,_+1,_,0,_,_,_,_,h,_=>by simp[aB]at h
 | n+1,p,m+1,t,d+1,j,a+1,k,b,c,hp,ht,hb=>by
  have u:=hp;have l:=ht;simp only[aB,aK,co]at hp ht;obtain⟨⟨⟨v,w⟩,A⟩,o⟩:=hp;obtain⟨⟨⟨t1,t2⟩,t3⟩,t4⟩:=ht;unfold iB;rw[<-v,<-w,<-t1,<-cT _ _ _ o,<-cT _ _ _ t4];by_cases g:p.1.1=6
  ·rw[if_pos g,if_pos g];exact hb
  ·rw[if_neg g,if_neg g];by_cases f:p.1.1=5
   ·rw[if_pos f,if_pos f];exact DS hb l
   ·rw[if_neg f,if_neg f];by_cases e:p.1.1=4
    ·rw[if_pos e,if_pos e];by_cases i:t.1.1=4/\p.2.2.length=t.2.2.length
     ·rw[if_pos i,if_pos i];exact vv _ _ (λx y=>aB n x d y) (λx y=>aB m x a y) p.2.2 t.2.2 j.2.2 k.2.2 (λx _ y _ x' z b c q r s=>mQ n x m y d x' a z b c q r s) o t4 b c hb
     ·rw[if_neg i,if_neg i];trivial
    ·rw[if_neg e,if_neg e,<-CJ u l];cases aB (n+1) p (m+1) t
     ·simp[oR]
     ·simpa [oR]using hb
theorem BM{w w':ag}{g:Nat}(c:w.grownBy w' (some g)):∀b o,b<w.heap.size->b≠g->w'.cell? ⟨b,o,none⟩=w.cell? ⟨b,o,none⟩:=
 λb o d e=>World.cell?_of_block (a:=⟨b,o,none⟩) (c.block b d (by simpa using e))
theorem rM{w w':ag}{row:Option Nat}(a:w.drew.grownBy w' row):w.grownBy w' row:=⟨a.os,a.tape,a.output,a.size,a.block⟩
theorem G5(p q:Nat)(a d:au)(pc h:Nat)(g c:Nat)(base:Nat)(w:ag)(_hpc:p<=9223372036854775807)(_hqc:q<=9223372036854775807)(f:((p:Int)==(q:Int))=false):ao 199 #[ae (some ⟨g,0,none⟩) 4 c,ae a p pc,ae d q h] w (eZ base g c none w):=by
 have i:((p:Int) !=(q:Int))=true:=by simpa using f
 go_enter func199,ntmps199;go_wp2_with fail
 go_ret
 exact⟨rfl,gV _ _,λb e=>by cases e⟩
theorem vu(a e:au)(pc i:Nat)(g c:Nat)(base:Nat)(b:List An)(w:ag)(H:nG base g c b w):ao 199 #[ae (some ⟨g,0,none⟩) 4 c,ae a 0 pc,ae e 0 i] w (eZ base g c (some b) w):=by
 have d:=aq H;clear H;go_enter func199,ntmps199;go_wp2_with fail
 go_loop [16] (λh=>h=ab 0) (λ_=>0)
 case atStart=>rfl
 case round=>
  obtain rfl:=hrel;go_wp2_with fail
  go_ret
  exact⟨rfl,gV _ _,λj f=>by obtain rfl:=az f;exact d⟩
theorem G4(n m:Nat)(ih:OI n)(p:List (Tm n))(q:List (Tm m))(len:Nat)(ad:Hid (p.length=len))(aA:Hid (q.length=len))(K po d j pc aB:Nat)(b:List An)(base g c B:Nat)(w:ag)(aH:len<=9223372036854775807)(ax:K<B)(ay:d<B)(aa:∀(i:Nat)(y:Tm n),p[i]?=some y->dC w K (po+i*4) n y/\In B w n y)(ai:∀(i:Nat)(y:Tm m),q[i]?=some y->dC w d (j+i*4) m y/\In B w m y)(aj:∀y∈p,aJ ⟨n,y⟩)(ak:∀y∈q,aJ ⟨m,y⟩)(V:Hid (Dq B w b))(U:B<=base)(H:Hid (nG base g c b w)):ao 199 #[ae (some ⟨g,0,none⟩) 4 c,ae (some ⟨K,po,none⟩) len pc,ae (some ⟨d,j,none⟩) len aB] w (eZ base g c (jb (λx y b=>iB n x m y b) p q b) w):=by
 have W:B<=g:=aF U H.out.lt.1;have X:g<w.heap.size:=H.out.lt.2;go_enter func199,ntmps199;go_wp2_with fail;go_loopw [16] (λi wr=>∃k:Nat,k<=len/\i=ab k/\Hid (w.grownBy wr (some g)/\∃a,nG base g c a wr/\Dq B wr a/\jb (λx y b=>iB n x m y b) (p.drop k) (q.drop k) a=jb (λx y b=>iB n x m y b) p q b)) (λi _=>len-(intOf i).toNat)
 case atStart=>exact⟨0,by omega,rfl,gV _ _,b,H.out,V.out,rfl⟩
 case round=>
  obtain⟨k,aD,rfl,v⟩:=hrel;by_cases Z:k<len
  ·obtain⟨x,E⟩:∃x,p[k]?=some x:=⟨p[k]'(by rw[ad.out];exact Z),aN _⟩;obtain⟨y,I⟩:∃y,q[k]?=some y:=⟨q[k]'(by rw[aA.out];exact Z),aN _⟩;obtain⟨l,a,L,u,t⟩:Hid (w.grownBy wr (some g))/\∃a,Hid (nG base g c a wr)/\Hid (Dq B wr a)/\Hid (jb (λx y b=>iB n x m y b) (p.drop k) (q.drop k) a=jb (λx y b=>iB n x m y b) p q b):=v.out;clear v;obtain⟨F,G⟩:=aa k x E;obtain⟨J,r⟩:=ai k y I;have z:=aq (G7 (λx y b=>iB n x m y b) p q k x y E I a);have T:=aq (aj x (aL E));have N:=aq (ak y (aL I));have o:=oE l.out W X;replace F:=F.below o ax;replace J:=J.below o ay;replace G:=G.below o;replace r:=r.below o;have aC:g<wr.heap.size:=aW X l.out.size;have D:B<=wr.heap.size:=by omega
   clear aa ai E I aj ak V H o;cases n with
   | zero=>exact F.elim
   | succ n=>
   cases m with
   | zero=>exact J.elim
   | succ m=>
   obtain⟨aQ,aR,aT,aU⟩:=F;obtain⟨y0,y1,y2,aV⟩:=J
   have Q:Hid (∀(h:ag),am wr h->ao 185 #[ae (some ⟨g,0,none⟩) 4 c,.agg #[ab x.1.1,ab x.1.2.1,af x.1.2.2,ae x.2.1.1 x.2.2.length x.2.1.2],.agg #[ab y.1.1,ab y.1.2.1,af y.1.2.2,ae y.2.1.1 y.2.2.length y.2.1.2]] h (eZ base g c (iB (n+1) x (m+1) y a) h)):=
    λh C=>ih x (m+1) y a base g c B h (G.below (C.mono D)) (r.below (C.mono D)) T.out N.out (u.out.below (C.mono D)) U (L.out.below C)
   have M:Hid (∀s e,iB (n+1) x (m+1) y a=s->s=some e->Dq B wr e):=λs e au av=>u.out.fit r N.out (au.trans av);clear ih G r T N u;replace z:Hid (jb (λx y b=>iB (n+1) x (m+1) y b) (p.drop k) (q.drop k) a=(iB (n+1) x (m+1) y a).bind (jb (λx y b=>iB (n+1) x (m+1) y b) (p.drop (k+1)) (q.drop (k+1)))):=z;generalize iB (n+1) x (m+1) y a=s at*;generalize x.2.2.length=al at*;generalize y.2.2.length=yl at*;have aE:(0:Int)<=(k:Int):=by omega
   have aG:(k:Int)<(len:Int):=by omega
   have aI:K<wr.heap.size:=by omega
   have aM:d<wr.heap.size:=by omega
   have aO:d<wr.heap.size+1:=by omega
   have aK:d≠g:=by omega
   have aP:wr.heap.size≠g:=by omega
   have an:=aq (Q.out (wr.alloc (.cells #[ab x.1.1,ab x.1.2.1,af x.1.2.2,ae x.2.1.1 al x.2.1.2] 31)).drew ((aS _ _).drew));clear Q;go_wp2_with fail
   go_region_held3 (λf=>ah f wr.heap.size 0 (ab x.1.1)/\ah f wr.heap.size 1 (ab x.1.2.1)/\ah f wr.heap.size 2 (af x.1.2.2)/\ah f wr.heap.size 3 (ae x.2.1.1 al x.2.1.2)
       /\ah f d (j+k*4) (ab y.1.1)/\ah f d (j+k*4+1) (ab y.1.2.1)/\ah f d (j+k*4+2) (af y.1.2.2)/\ah f d (j+k*4+3) (ae y.2.1.1 yl y.2.1.2))
    (go_keep) ((go_at_call 185;refine an.out.mono ?_;rintro A h ⟨rfl,O,Y⟩;have aw:=BM (rM O);have R:=aq (rM O);have ap:=aq Y;clear O Y))
   have S:Hid (w.grownBy h (some g)):=l9 l.out (l9 (dd wr _ _) R.out);clear aw;cases s with
   | some e=>
    have ar:Hid (Dq B h e):=(M.out _ e rfl rfl).below (((aS _ _).mono D).trans (oE R.out W (by simp;omega)));clear M;simp only[nA];go_wp2_with fail;go_roundw
    case rel=>exact⟨k+1,by omega,by go_num,S.out,e,ap.out e rfl,ar.out,by rw[<-t.out,z.out];rfl⟩
    case measure=>simp[intOf];omega
   | none=>
    clear M;simp only[nz];go_wp2_with fail
    go_ret
    have P:jb (λx y b=>iB (n+1) x (m+1) y b) p q b=none:=by rw[<-t.out,z.out];rfl
    rw[P];exact⟨rfl,S.out,λa A=>by cases A⟩
  ·obtain⟨l,a,L,u,t⟩:Hid (w.grownBy wr (some g))/\∃a,Hid (nG base g c a wr)/\Hid (Dq B wr a)/\Hid (jb (λx y b=>iB n x m y b) (p.drop k) (q.drop k) a=jb (λx y b=>iB n x m y b) p q b):=v.out;clear v;go_wp2_with fail
   go_ret
   have P:jb (λx y b=>iB n x m y b) p q b=some a:=by rw[<-t.out,gi (by rw[ad.out];omega)];rfl
   rw[P];exact⟨rfl,l.out,λe A=>by obtain rfl:=az A;exact L.out⟩
theorem DR(n m:Nat)(ih:OI n)(p:List (Tm n))(q:List (Tm m))(a e:au)(pc j:Nat)(b:List An)(base g c B:Nat)(w:ag)(f:p=[]\/∃b o,a=some ⟨b,o,none⟩/\b<B/\∀(i:Nat)(y:Tm n),p[i]?=some y->dC w b (o+i*4) n y/\In B w n y)(h:q=[]\/∃b o,e=some ⟨b,o,none⟩/\b<B/\∀(i:Nat)(y:Tm m),q[i]?=some y->dC w b (o+i*4) m y/\In B w m y)(u:p.length<=9223372036854775807)(A:q.length<=9223372036854775807)(C:∀y∈p,aJ ⟨n,y⟩)(D:∀y∈q,aJ ⟨m,y⟩)(r:Dq B w b)(l:B<=base)(H:nG base g c b w):ao 199 #[ae (some ⟨g,0,none⟩) 4 c,ae a p.length pc,ae e q.length j] w (eZ base g c (if p.length=q.length then jb (λx y b=>iB n x m y b) p q b else none) w):=by
 by_cases d:p.length=q.length
 ·rw[if_pos d];rcases f with f|⟨E,po,rfl,t,f⟩
  ·subst f;have v:q=[]:=bI d.symm;subst v;exact vu a e pc j g c base b w H
  ·rcases h with h|⟨F,G,rfl,z,h⟩
   ·subst h;have s:p=[]:=bI d;subst s;exact vu _ e pc j g c base b w H
   ·have k:=G4 n m ih p q p.length rfl d.symm E po F G pc j b base g c B w (by omega) t z f h C D r l H;rw[<-d];exact k
 ·rw[if_neg d];exact G5 p.length q.length a e pc j g c base w u A (by simp;omega)
theorem eZ.from{base g c:Nat}{o:Option (List An)}{w w1:ag}(a:w.grownBy w1 (some g)){e:Ending}{w2:ag}(k:eZ base g c o w1 e w2):eZ base g c o w e w2:=
 ⟨k.1,l9 a k.2.1,k.2.2⟩
theorem G9(k E j F:Int)(s C:ap)(a t:au)(l u pc v:Nat)(base g c:Nat)(b:List An)(o p:Option (List An))(D:Bool)(w:ag)(I:Hid (nG base g c b w))(q:Hid (k=5->∀w1,am w w1->ao 198 #[ae (some ⟨g,0,none⟩) 4 c,ab E,.agg #[ab j,ab F,af C,ae t u v]] w1 (eZ base g c o w1)))(H:Hid (∀w1,am w w1->ao 199 #[ae (some ⟨g,0,none⟩) 4 c,ae a l pc,ae t u v] w1 (eZ base g c p w1)))(N:Hid (∀w1,am w w1->ao 200 #[.agg #[ab k,ab E,af s,ae a l pc],.agg #[ab j,ab F,af C,ae t u v]] w1 λe w'=>∃r,e=.returned (ab r)/\Hid ((r==0)=D)/\am w1 w')):ao 185 #[ae (some ⟨g,0,none⟩) 4 c,.agg #[ab k,ab E,af s,ae a l pc],.agg #[ab j,ab F,af C,ae t u v]] w (eZ base g c (if k=6 then some b else if k=5 then o else if k=4 then (if j=4 then p else none)else if D then some b else none) w):=by
 have L:∀o p,am w ((w.alloc o).alloc p):=λo p=>(aS _ _).alloc (by simp) _;have f:=aq L;clear L;by_cases i:k=6
 ·rw[if_pos i];subst i;go_enter func185,ntmps185;go_wp2_with fail
  go_ret
  exact⟨rfl,da (f _ _) _,λA e=>by obtain rfl:=az e;exact I.below (f _ _)⟩
 rw[if_neg i];have S:(k==6)=false:=by simpa using i
 by_cases d:k=5
 ·rw[if_pos d];have O:=aq (q d);have R:(k==5)=true:=by simpa using d
  clear d i q;go_enter func185,ntmps185;go_wp2_with fail;refine(O _ (f _ _)).mono ?_;rintro e w1 n;have x:=aq (eZ.from (da (f _ _) _) n);obtain⟨rfl,_,_⟩:=n;go_wp2_with fail
  go_ret
  exact x
 rw[if_neg d];have R:(k==5)=false:=by simpa using d
 by_cases h:k=4
 ·rw[if_pos h];have P:(k==4)=true:=by simpa using h
  clear d i q;by_cases m:j=4
  ·rw[if_pos m];have Q:(j==4)=true:=by simpa using m
   clear h m;go_enter func185,ntmps185;go_wp2_with fail;refine(H _ (f _ _)).mono ?_;rintro e w1 n;have x:=aq (eZ.from (da (f _ _) _) n);obtain⟨rfl,_,_⟩:=n;go_wp2_with fail
   all_goals go_ret
   all_goals exact x
  ·rw[if_neg m];have Q:(j==4)=false:=by simpa using m
   clear h m;go_enter func185,ntmps185;go_wp2_with fail
   go_ret
   exact⟨rfl,da (f _ _) _,λA e=>by cases e⟩
 rw[if_neg h];have P:(k==4)=false:=by simpa using h
 clear h d i q H;obtain⟨M,B⟩:∃M,M=if D then some b else none:=⟨_,rfl⟩
 rw[<-B];have G:=aq B;clear B;go_enter func185,ntmps185;go_wp2_with fail;refine(N _ (f _ _)).mono ?_;rintro e w1 ⟨r,rfl,J,K⟩;have z:Hid (am w w1):=(f _ _).trans (K.mono (f _ _).size);have y:=aq G.out;rw[Hid,<-J.out]at y;clear K J G;cases h0:r==0
 ·go_wp2_with fail
  go_ret
  have d:=y;rw[h0]at d;simp only[pG,if_false]at d;subst d;exact⟨rfl,da z _,λA e=>by cases e⟩
 ·go_wp2_with fail
  go_ret
  have d:=y;rw[h0]at d;simp only[de]at d;subst d;exact⟨rfl,da z _,λA e=>by obtain rfl:=az e;exact I.below z⟩
theorem O8(n:Nat)(p:Tm (n+1))(m:Nat)(t:Tm (m+1))(b:List An):iB (n+1) p (m+1) t b=if p.1.1=6 then some b else if p.1.1=5 then vw b p.1.2.1.toNat ⟨m+1,t⟩else if p.1.1=4 then (if t.1.1=4 then (if p.2.2.length=t.2.2.length then jb (λx y b=>iB n x m y b) p.2.2 t.2.2 b else none)else none)else if aB (n+1) p (m+1) t then some b else none:=by
 simp only[iB];by_cases a:t.1.1=4<;>by_cases c:p.2.2.length=t.2.2.length<;>simp[a,c]
theorem PC(n:Nat)(p:Tm (n+1))(d:aJ ⟨n+1,p⟩)(e:p.1.1=5):∃k:Nat,k<4/\p.1.2.1=k:=by
 have a:=d (bL n p) (by simp[aC,bL]);have b:(bL n p).1.1=5:=e;have c:(bL n p).1.2.1=p.1.2.1:=rfl;simp[cN,b,rh]at a;rw[c]at a;exact⟨p.1.2.1.toNat,by omega,by omega⟩
theorem Ku(n:Nat):OI n:=by
 induction n with
 | zero=>intro e j t b s u c l y d;exact d.elim
 | succ n ih=>
  intro e j t b s u c l y d v w x i z r;cases j with
  | zero=>exact v.elim
  | succ j=>
  have f:l<=y.heap.size:=by have:=r.lt;omega
  have C:=d;have H:=v;obtain⟨⟨_,_,_,I,D⟩,E⟩:=C;obtain⟨⟨_,_,_,J,F⟩,G⟩:=H;unfold maxLen at D F;rw[O8];refine G9 e.1.1 e.1.2.1 t.1.1 t.1.2.1 e.1.2.2 t.1.2.2 e.2.1.1 t.2.1.1 e.2.2.length t.2.2.length e.2.1.2 t.2.1.2 s u c b _ _ _ y r ?_ ?_ ?_
  ·intro A q a;obtain⟨k,B,m⟩:=PC n e w A;rw[m];exact Ky b s u c l q k B j t (i.below (a.mono f)) (v.below (a.mono f)) x z (r.below a)
  ·intro q a;refine DR n j ih e.2.2 t.2.2 e.2.1.1 t.2.1.1 e.2.1.2 t.2.1.2 b s u c l q ?_ ?_ (by omega) (by omega) (λh g=>bi n e h w g) (λh g=>bi j t h x g) (i.below (a.mono f)) z (r.below a)
   ·rcases E with d|⟨b,o,m,i,d⟩
    ·exact aj d
    ·exact ak ⟨b,o,m,i,λp h g=>⟨(d p h g).1.below (a.mono f) i,(d p h g).2.below (a.mono f)⟩⟩
   ·rcases G with d|⟨b,o,m,i,d⟩
    ·exact aj d
    ·exact ak ⟨b,o,m,i,λp h g=>⟨(d p h g).1.below (a.mono f) i,(d p h g).2.below (a.mono f)⟩⟩
  ·intro q a;exact Cm ⟨n+1,e⟩ ⟨j+1,t⟩ l q (d.below (a.mono f)) (v.below (a.mono f)) (aF f a.size) w x
def ov(n:Nat)(q:List (Tm n)):List An:=q.map λx=>⟨n,x⟩
theorem nI(n:Nat)(q:List (Tm n)):(ov n q).length=q.length:=by simp[ov]
theorem D0{n:Nat}{q:List (Tm n)}{w:ag}{f po:Nat}(r:∀(i:Nat)(y:Tm n),q[i]?=some y->dC w f (po+i*4) n y):∀j b,(gn (ov n q))[j]?=some b->w.cell? ((⟨f,po,none⟩:Addr).add j)=some b:=by
 intro j b a;have d:=lC (ov n q);have s:j<q.length*4:=by
  rw[nI]at d;rw[<-d];exact(aY.1 a).1
 obtain⟨k,i,p,rfl⟩:∃k i,i<4/\j=k*4+i:=⟨j / 4,j % 4,Nat.mod_lt _ (by decide),by omega⟩;obtain⟨y,e⟩:∃y,q[k]?=some y:=⟨q[k]'(by omega),aN _⟩;have g:(gn (ov n q))[k*4+i]?=(uh (tL ⟨n,y⟩))[i]? :=jm _ k (tL ⟨n,y⟩) (by simp[ov,e]) i p;rw[g]at a;have c:=r k y e;cases n with
 | zero=>exact c.elim
 | succ n=>
 obtain⟨h,l,m,o⟩:=c;rw[eP,<-Nat.add_assoc];have:i=0\/i=1\/i=2\/i=3:=by omega
 rcases this with rfl|rfl|rfl|rfl
 all_goals simp[uh,tL,gF,bL]at a;subst a
 ·exact h
 ·exact l
 ·exact m
 ·exact o
theorem DJ(n:Nat)(q:List (Tm n))(len l po pc:Nat)(w:ag)(p:Hid (q.length=len))(F:0<len)(G:len<=1048576)(y:Hid (∀w1,am w w1->∀j u,(gn (ov n q))[j]?=some u->w1.cell? ((⟨l,po,none⟩:Addr).add j)=some u)):ao 184 #[ae (some ⟨l,po,none⟩) len pc] w λe w'=>∃g c,e=.returned (ae (some ⟨g,0,none⟩) len c)/\Hid (am w w'/\nG w.heap.size g c (ov n q) w'):=by
 obtain⟨C,o,r,s,t⟩:=bU gJ;have a:=aq (⟨o,r,s,t⟩:_/\_/\_/\_);clear o r s t;have I:∀(w:ag)(b:au)(n c i f:Nat),(binOp .eql 29 (ae b n c) (ae none i f)).run Tryz.prog w=.ok (.bool b.isNone) w:=λw b n c i f=>Lib.run_eql_slice_nil w _ _ b n c i f underlying29;go_enter func184,ntmps184;go_wp2_with (at_builtin;refine wpList_append_own _ rfl _ _ 29 rfl w.heap.size 31 C _ 4 56 underlying29 a.1 a.2.1 a.2.2.1 a.2.2.2 rfl (by decide) _ _ _ rfl (World.ownsRow_made w #[] 0 (av _) (aM _) (by simp)) ⟨l,po,none⟩ len pc (gn (ov n q)) rfl ?qc1 ?qc2 ?qc3 ?qc4 ?qc5 ?qc6 ?_)
 case qc1=>rw[lC,nI,p.out]
 case qc2=>exact y _ (aS _ _)
 case qc3=>exact A2 _
 case qc4=>unfold maxLen;omega
 case qc5=>omega
 case qc6=>simp
 intro D w1 h m B;have v:Hid (∃g c,D=ae (some ⟨g,0,none⟩) len c/\am w w1/\nG w.heap.size g c (ov n q) w1):=by
  have z:am w w1:=Below.grown (aS _ _) m (by simp) (by intro k A;simp[Value.ownBlock]at A;omega);have d:=h;obtain⟨_,d⟩:=d;rcases d with⟨_,d⟩|⟨g,cap,E,rfl,H,_⟩
  ·omega
  ·refine⟨g,cap,rfl,z,?_⟩;unfold nG;rw[nI,p.out];exact h
 clear h m B;obtain⟨g,c,rfl,x⟩:=v;go_wp2_with fail
 go_ret
 exact⟨g,c,rfl,x⟩
def ue(a b:Int)(cl bd:Bool):Int:=if a=0 then if b=0 then if cl && bd then 0 else 5 else b else a
def zj(a:Int)(o:Option (List An))(w:ag)(e:Ending)(w':ag):Prop:=
 ∃f len c d,e=.returned (.tuple #[ae f len c,.bool d,ab a])/\Hid (am w w'/\
  ((¬(a=0/\o.isSome=true)->len=0/\d=false)/\∀b,a=0->o=some b->d=true/\len=4/\b.length=4/\∃g l,w.heap.size<=g.heap.size/\ie (nE b) (Db b) g w' f c l))
def OF(w:ag)(v0 v1 v2 v3 a b c d:ar)(w':ag):Prop:=
 am w w'/\w.heap.size+2<=w'.heap.size/\
 (ah w' w.heap.size 0 v0/\ah w' w.heap.size 1 v1/\ah w' w.heap.size 2 v2/\ah w' w.heap.size 3 v3)/\
 (w'.cell? ⟨w.heap.size+1,0,none⟩=some a/\w'.cell? ⟨w.heap.size+1,1,none⟩=some b/\w'.cell? ⟨w.heap.size+1,2,none⟩=some c/\w'.cell? ⟨w.heap.size+1,3,none⟩=some d)
theorem OF.new(w:ag)(v0 v1 v2 v3 a b c d:ar)(t e:TypeId):OF w v0 v1 v2 v3 a b c d ((w.alloc (.cells #[v0,v1,v2,v3] t)).alloc (.cells #[a,b,c,d] e)):=
 ⟨(aS _ _).alloc (by simp) _,by simp,⟨by simp[go_sem],by simp[go_sem],by simp[go_sem],by simp[go_sem]⟩,by simp[go_sem],by simp[go_sem],by simp[go_sem],by simp[go_sem]⟩
theorem OF.next{w:ag}{v0 v1 v2 v3 c d e f:ar}{w1 w2:ag}(a:OF w v0 v1 v2 v3 c d e f w1)(b:am w1 w2):OF w v0 v1 v2 v3 c d e f w2:=
 ⟨a.1.trans (b.mono a.1.size),aF a.2.1 b.size,oA (by have:=a.2.1;omega) b a.2.2.1,oA (by have:=a.2.1;omega) b a.2.2.2⟩
theorem Ek(w:ag)(k G z D:Int)(s C:ap)(a n:au)(l pc A B:Nat)(W:au)(Y X:Nat)(i j:Int)(cl bd:Bool)(o:Option (List An))(T:List An)(av:Hid (∀w1,am w w1->ao 53 #[.agg #[ab k,ab G,af s,ae a l pc]] w1 λe w'=>e=.returned (ab i)/\am w1 w'))(aw:Hid (∀w1,am w w1->ao 53 #[.agg #[ab z,ab D,af C,ae n A B]] w1 λe w'=>e=.returned (ab j)/\am w1 w'))(al:Hid (∀w1,am w w1->ao 54 #[.agg #[ab z,ab D,af C,ae n A B]] w1 λe w'=>e=.returned (.bool cl)/\am w1 w'))(ai:Hid (∀w1,am w w1->ao 183 #[ae W Y X] w1 λe w'=>e=.returned (.bool bd)/\am w1 w'))(an:Hid (bd=true->∀w1,am w w1->ao 184 #[ae W Y X] w1 λe w'=>∃g c,e=.returned (ae (some ⟨g,0,none⟩) 4 c)/\Hid (am w1 w'/\nG w1.heap.size g c T w')))(S:Hid (ue i j cl bd=0->∀w1 base g c,am w w1->w.heap.size<=base->nG base g c T w1->ao 185 #[ae (some ⟨g,0,none⟩) 4 c,.agg #[ab k,ab G,af s,ae a l pc],.agg #[ab z,ab D,af C,ae n A B]] w1 (eZ base g c o w1)))(R:Hid (ue i j cl bd=0->∀w1 base g c b,o=some b->am w w1->nG base g c b w1->b.length=4/\ao 89 #[ae (some ⟨g,0,none⟩) 4 c] w1 λe w'=>∃n aC l,e=.returned (ae n 4 aC)/\Hid (ie (nE b) (Db b) w1 w' n aC l))):ao 152 #[.agg #[ab k,ab G,af s,ae a l pc],.agg #[ab z,ab D,af C,ae n A B],ae W Y X] w (zj (ue i j cl bd) o w):=by
 obtain⟨f,V⟩:∃f,f=ue i j cl bd:=⟨_,rfl⟩;rw[<-V]at S R ⊢;have q:=aq V;clear V;go_enter func152,ntmps152;go_wp2_with fail;refine(av _ (OF.new w _ _ _ _ _ _ _ _ _ _).1).mono ?_;rintro e w1 ⟨rfl,aE⟩;have t:=aq ((OF.new w (ab k) (ab G) (af s) (ae a l pc) (ab z) (ab D) (af C) (ae n A B) 31 31).next aE);clear aE av;by_cases m:i=0
 case neg=>
  have aM:(i !=0)=true:=by simpa using m
  have d:Hid (f=i/\¬f=0):=by have:=q.out;unfold ue at this;rw[if_neg m]at this;exact⟨this,by rw[this];exact m⟩
  clear m q;go_wp2_with fail;exact ay (v:=.tuple #[ae none 0 0,.bool false,ab i]) (by simp[results,results152,go_sem]) rfl ⟨none,0,0,false,by rw[d.out.1],t.1,λ_=>⟨rfl,rfl⟩,λb h=>absurd h d.2⟩
 have aM:(i !=0)=false:=by simp[m]
 obtain⟨⟨L,M,N,O⟩,H,I,J,K⟩:=t.out.2.2;go_wp2_with fail;refine(aw _ t.1).mono ?_;rintro e aR ⟨rfl,aG⟩;have u:=aq (t.next aG);clear aG aw t L M N O H I J K;by_cases p:j=0
 case neg=>
  have aN:(j !=0)=true:=by simpa using p
  have d:Hid (f=j/\¬f=0):=by have:=q.out;unfold ue at this;rw[if_pos m,if_neg p]at this;exact⟨this,by rw[this];exact p⟩
  clear p m q;go_wp2_with fail;exact ay (v:=.tuple #[ae none 0 0,.bool false,ab j]) (by simp[results,results152,go_sem]) rfl ⟨none,0,0,false,by rw[d.out.1],u.1,λ_=>⟨rfl,rfl⟩,λb h=>absurd h d.2⟩
 have aN:(j !=0)=false:=by simp[p]
 have r:Hid (f=if cl && bd then 0 else 5):=by have:=q.out;unfold ue at this;rw[if_pos m,if_pos p]at this;exact this
 clear p m q;obtain⟨⟨L,M,N,O⟩,H,I,J,K⟩:=u.out.2.2;go_wp2_with fail;refine(al _ u.1).mono ?_;rintro e aS ⟨rfl,aH⟩;have E:=aq (u.next aH);clear aH al u L M N O H I J K;cases cl with
 | false=>
  have d:Hid (f=5/\¬f=0):=by have:=r.out;simp at this;exact⟨this,by rw[this];decide⟩
  clear r;go_wp2_with fail;exact ay (v:=.tuple #[ae none 0 0,.bool false,ab 5]) (by simp[results,results152,go_sem]) rfl ⟨none,0,0,false,by rw[d.out.1],E.1,λ_=>⟨rfl,rfl⟩,λb h=>absurd h d.2⟩
 | true=>
 go_wp2_with fail;refine(ai _ E.1).mono ?_;rintro e Z ⟨rfl,aI⟩;have x:=aq (E.next aI);clear aI ai E;cases bd with
 | false=>
  have d:Hid (f=5/\¬f=0):=by have:=r.out;simp at this;exact⟨this,by rw[this];decide⟩
  clear r;go_wp2_with fail;exact ay (v:=.tuple #[ae none 0 0,.bool false,ab 5]) (by simp[results,results152,go_sem]) rfl ⟨none,0,0,false,by rw[d.out.1],x.1,λ_=>⟨rfl,rfl⟩,λb h=>absurd h d.2⟩
 | true=>
 have d:Hid (f=0):=by have:=r.out;simp at this;exact this
 have ax:=aq (S d);have aj:=aq (R d);have ar:=aq (an rfl);clear r S R an;go_wp2_with fail;refine(ar _ x.1).mono ?_;rintro e aJ ⟨g,c,rfl,Q⟩;have P:=aq (x.next Q.1);have F:Hid (nG Z.heap.size g c T aJ):=Q.2;have aA:Hid (w.heap.size<=Z.heap.size):=x.1.size;obtain⟨⟨L,M,N,O⟩,H,I,J,K⟩:=P.out.2.2;clear x Q ar;go_wp2_with fail;refine(ax aJ Z.heap.size g c P.1 aA F).mono ?_;rintro e aa U;have y:Hid (am w aa):=P.1.trans (oE U.2.1 (aF aA F.lt.1) F.lt.2);have ad:=aq U.2.2;obtain⟨rfl,_,_⟩:=U;clear F ax;cases o with
 | none=>
  simp only[nz];go_wp2_with fail;exact ay (v:=.tuple #[ae none 0 0,.bool false,ab 0]) (by simp[results,results152,go_sem]) rfl ⟨none,0,0,false,by rw[d.out],y,λ_=>⟨rfl,rfl⟩,λb _ h=>by cases h⟩
 | some b=>
  simp only[nA];have aL:=aq (ad b rfl);have ak:=aq (aj aa _ g c b rfl y aL);clear ad aj;go_wp2_with fail;refine ak.2.mono ?_;rintro e aP ⟨aB,aD,aO,rfl,ah⟩;have aK:Hid (am w aP):=y.trans (ah.1.mono y.size);go_wp2_with fail;exact ay (v:=.tuple #[ae aB 4 aD,.bool true,ab 0]) (by simp[results,results152,go_sem]) rfl ⟨aB,4,aD,true,by rw[d.out],aK,λh=>absurd ⟨d,rfl⟩ h,λaQ _ e=>by obtain rfl:=az e;exact⟨rfl,rfl,ak.1,aa,aO,y.size,ah⟩⟩
theorem xT{e f:Int}{cl bd:Bool}(a:ue e f cl bd=0):e=0/\f=0/\cl=true/\bd=true:=by
 unfold ue at a;split at a
 ·split at a
  ·split at a
   ·rename_i b c d;simp at d;exact⟨b,c,d.1,d.2⟩
   ·cases a
  ·rename_i b c;exact absurd a c
 ·rename_i b;exact absurd a b
theorem Ba{n:Nat}{q:List (Tm n)}(a:gE n q=true):q.length=4:=by
 unfold gE at a;simp at a;exact a.1
theorem GL{n:Nat}{q:List (Tm n)}(a:gE n q=true):∀y∈ov n q,aJ y:=by
 intro y c;simp only[ov,cm]at c;obtain⟨x,d,rfl⟩:=c;unfold gE at a;simp only[aK,cG]at a;have b:=a.2 x d;unfold Ch at b;simp only[aK,co]at b;exact rF n x b.1
theorem Ns{B:Nat}{w:ag}{n:Nat}{q:List (Tm n)}{a:au}(c:fU B w n q a):∀y∈ov n q,Gu B w y:=by
 intro y e;simp only[ov,cm]at e;obtain⟨x,d,rfl⟩:=e;rcases c with c|⟨b,o,_,_,c⟩
 ·rw[c]at d;cases d
 ·obtain⟨g,f⟩:=di d;exact(c g x f).2
theorem BW{B:Nat}{w:ag}{n:Nat}{q:List (Tm n)}{a:au}(d:fU B w n q a)(k:gE n q=true):Dq B w (ov n q):=
 ⟨by rw[nI];exact Ba k,λc b=>⟨Ns d c b,GL k c b⟩⟩
theorem yf(n m o:Nat)(p:Tm n)(t:Tm m)(q:List (Tm o))(a:au)(c B:Nat)(w:ag)(C:In B w n p)(j:In B w m t)(g:fU B w o q a)(e:B<=w.heap.size)(J:(aC n p).length<=2097152)(L:(aC m t).length<=2097152)(K:∀y∈q,(aC o y).length<=2097152)(S:q.length<=9223372036854775807):ao 152 #[dB n p,dB m t,ae a q.length c] w (zj (ue (bG n p) (bG m t) (ky m t) (gE o q)) (iB n p m t (ov o q)) w):=by
 cases n with
 | zero=>exact C.elim
 | succ n=>
 cases m with
 | zero=>exact j.elim
 | succ m=>
 refine Ek w p.1.1 p.1.2.1 t.1.1 t.1.2.1 p.1.2.2 t.1.2.2 p.2.1.1 t.2.1.1 p.2.2.length p.2.1.2 t.2.2.length t.2.1.2 a q.length c _ _ _ _ _ (ov o q) ?_ ?_ ?_ ?_ ?_ ?_ ?_
 ·exact λf d=>ed (n+1) p B f (C.below (d.mono e)) (aF e d.size) J
 ·exact λf d=>ed (m+1) t B f (j.below (d.mono e)) (aF e d.size) L
 ·intro f d;rw[<-fM];exact jf (m+1) t B f (j.below (d.mono e)) (aF e d.size)
 ·exact λf d=>A6 o q a c B f (g.below (d.mono e)) S K (aF e d.size)
 ·intro N f d;have k:=Ba N;rcases g with g|⟨U,po,rfl,G,g⟩
  ·rw[g]at k;simp at k
  ·have l:=DJ o q 4 U po c f k (by decide) (by decide) (λW I=>D0 λT y h=>((g T y h).1.below (d.mono e) G).below (I.mono (aF e d.size)) G);rw[k];exact l
 ·intro z f D v r d M A;obtain⟨E,s,H,u⟩:=xT z;exact Ku (n+1) p (m+1) t (ov o q) D v r B f (C.below (d.mono e)) (j.below (d.mono e)) (rF _ _ E) (rF _ _ s) ((BW g u).below (d.mono e)) (aF e M) A
 ·intro z f D v r b O d A;obtain⟨E,s,H,u⟩:=xT z;have i:=((BW g u).fit j (rF _ _ s) O).below (d.mono e);have Q:=Ma A (λy h=>(i.2 y h).1) (aF e d.size);have R:(Db b).length=4:=by simp[Db,i.1]
  have l:=tC (nE b) (iG _) (Db b) (some ⟨v,0,none⟩) r f.heap.size f Q (by omega) (Jr λy h=>⟨(i.2 y h).2,λF=>by
   have P:=(i.2 y h).1;obtain⟨V,x⟩:=y;simp only at F;subst F
   exact P.elim⟩) (av _)
  rw[R]at l;exact⟨i.1,l⟩
theorem zC{n:Nat}{x:Tm (n+1)}(a:aT (n+1) x=true):x.1.1≠5/\x.1.1≠6/\∀y∈x.2.2,aT n y=true:=by
 simp only[aT,aK,kU,cG]at a;exact⟨by simpa using a.1.1,by simpa using a.1.2,a.2⟩
def QS:(n:Nat)->Tm n->Bool
 | 0,_=>true
 | n+1,x=> !(x.1.1==5) && x.2.2.all λy=>QS n y
def Dy(D:Nat)(l:List (Tm D))(d:List An):Prop:=∀(i:Nat)(a:An),d[i]?=some a->∃y,l[i]?=some y/\aB D y a.1 a.2=true/\aJ ⟨D,y⟩
theorem xV{n m:Nat}:(p:List (Tm n))->(q:List (Tm m))->(b c:List An)->jb (λx y b=>iB n x m y b) p q b=some c->∀(i:Nat)(x:Tm n)(y:Tm m),p[i]?=some x->q[i]?=some y->∃a e,iB n x m y a=some e
 | [],_,_,_,_,i,x,y,hx,_=>by simp at hx
 | _::_,[],_,_,_,i,x,y,_,hy=>by simp at hy
 | x::p,y::q,b,c,h,i,x',y',hx,hy=>by
  simp only[jb]at h;obtain⟨d,f,g⟩:=bF.1 h;cases i with
  | zero=>
   simp at hx hy;subst hx hy;exact⟨b,d,f⟩
  | succ i=>exact xV p q d c g i x' y' (by simpa using hx) (by simpa using hy)
theorem LS{a β:Type}(f:a->Int)(g:β->Int):(p:List a)->(q:List β)->p.length=q.length->(∀(i:Nat)(x:a)(y:β),p[i]?=some x->q[i]?=some y->f x<=g y)->(p.map f).sum<=(q.map g).sum
 | [],[],_,_=>by simp
 | [],_::_,h,_=>by simp at h
 | _::_,[],h,_=>by simp at h
 | x::p,y::q,h,hf=>by
  have e:=hf 0 x y (by simp) (by simp);have j:=LS f g p q (by simpa using h) λi x' d b c=>hf (i+1) x' d (by simpa using b) (by simpa using c);simp only[aV,bO];omega
theorem FP{a β:Type}(f:a->Int)(g:β->Int):(p:List a)->(q:List β)->(i j:Int)->i<=j->p.length=q.length->(∀(i:Nat)(x:a)(y:β),p[i]?=some x->q[i]?=some y->f x<=g y)->p.foldl (λm y=>max m (f y)) i<=q.foldl (λm y=>max m (g y)) j
 | [],[],_,_,h,_,_=>h
 | [],_::_,_,_,_,h,_=>by simp at h
 | _::_,[],_,_,_,h,_=>by simp at h
 | x::p,y::q,i,j,hij,h,hf=>by
  have e:=hf 0 x y (by simp) (by simp);simp only[gP];exact FP f g p q _ _ (by omega) (by simpa using h) λi x' d b c=>hf (i+1) x' d (by simpa using b) (by simpa using c)
theorem uG{c:Type}(f:c->Int)(b:∀x,0<=f x):(p:List c)->(y:c)->y∈p->f y<=(p.map f).sum/\0<=(p.map f).sum
 | [],y,a=>by cases a
 | x::p,y,a=>by
  have g:=b x;have e:0<=(p.map f).sum:=by
   cases p with
   | nil=>simp
   | cons d p=>exact(uG f b (d::p) d (by simp)).2
  simp only[aV,bO];rcases cU.1 a with rfl|a
  ·omega
  ·have:=uG f b p y a;omega
theorem FO{a:Type}(f:a->Int):(p:List a)->(i:Int)->i<=p.foldl (λm y=>max m (f y)) i
 | [],_=>jy _
 | x::p,i=>by
  simp only[gP];have:=FO f p (max i (f x));omega
theorem B5{b:Type}(f:b->Int):(p:List b)->(i:Int)->(y:b)->y∈p->f y<=p.foldl (λm y=>max m (f y)) i
 | [],_,y,a=>by cases a
 | x::p,i,y,a=>by
  simp only[gP];rcases cU.1 a with rfl|a
  ·have:=FO f p (max i (f y));omega
  ·exact B5 f p _ y a
theorem O9:(n:Nat)->(x:Tm n)->(m:Nat)->(t:Tm m)->(b c:List An)->QS n x=true->iB n x m t b=some c->sz n x<=sz m t/\fP n x<=fP m t
 | 0,_,_,_,_,_,_,h=>by simp[iB]at h
 | _+1,_,0,_,_,_,_,h=>by simp[iB]at h
 | n+1,x,m+1,t,b,c,hv,h=>by
  have s0:=(fl (m+1) t).1;have d0:=(gt (m+1) t).1;simp only[QS,aK,cG]at hv;have q:¬x.1.1=5:=by simpa using hv.1
  by_cases i:x.1.1=4
  ·have r:¬x.1.1=6:=by omega
   simp only[iB,if_neg r,if_neg q,if_pos i]at h;split at h
   ·rename_i j;have o:=xV _ _ b c h;have key:∀(e:Nat)(a:Tm n)(d:Tm m),x.2.2[e]?=some a->t.2.2[e]?=some d->sz n a<=sz m d/\fP n a<=fP m d:=λe a d f g=>by
     obtain⟨k,l,p⟩:=o e a d f g;exact O9 n a m d k l (hv.2 a (aL f)) p
    have s:=LS (λa=>1+sz n a) (λa=>1+sz m a) x.2.2 t.2.2 j.2 λe a d f g=>by have:=key e a d f g;omega
    have u:=FP (λa=>fP n a) (λa=>fP m a) x.2.2 t.2.2 0 0 (jy _) j.2 λe a d f g=>(key e a d f g).2;simp only[sz,fP,if_pos i,if_pos j.1];omega
   ·cases h
  ·simp only[sz,fP,if_neg i];simp only[sz,fP]at s0 d0;exact⟨s0,d0⟩
theorem vj{n:Nat}{x:Tm n}:bG n x=0 ↔ ci n x=true/\fP n x<=12/\sz n x<=200:=by
 rw[<-gM];unfold xD;constructor
 ·intro a;split at a
  ·rename_i c;split at a
   ·cases a
   ·rename_i f;exact⟨c,by omega,by omega⟩
  ·cases a
 ·rintro ⟨b,d,e⟩;rw[if_pos b,if_neg (by omega)]
def Dx(a:An):Prop:=bG a.1 a.2=0/\(b8 a=6\/aT a.1 a.2=true)
theorem oL:uS Dx:=by
 intro n x a g b;obtain⟨h,c⟩:=g;obtain⟨f1,f2,f3⟩:=vj.1 h;have e:aJ ⟨n+1,x⟩:=aU.2 f1;have f:=eV (bL n x) (e (bL n x) (by simp[aC,bL]));have d:x.1.1=4:=by
  by_cases d:x.1.1=4
  ·exact d
  ·have:x.2.2=[]:=bI (f.2.2.2.2 d);rw[this]at b;cases b
 have j:=uG (λa=>1+sz n a) (λa=>by have:=(fl n a).1;omega) x.2.2 a b;have i:=B5 (λa=>fP n a) x.2.2 0 a b;simp only[sz,fP,if_pos d]at f2 f3;refine⟨vj.2 ⟨aU.1 (bi n x a e b),by simp only at i ⊢;omega,by simp only at j ⊢;omega⟩,ak ?_⟩;rcases c with c|c
 ·simp only[b8]at c;omega
 ·exact(zC c).2.2 a b
theorem yR{D:Nat}{l:List (Tm D)}{c:List An}(g:∀y∈c,Dx y)(h:l.length=4)(n:c.length=4)(j:Dy D l c):gE D l=true:=by
 unfold gE;rw[h];simp only[decide_true,eQ,cG];intro y k;obtain⟨a,e⟩:=di k;have i:a<c.length:=by have:=(aY.1 e).1;omega
 obtain⟨o,f,d,_⟩:=j a c[a] (aN i);rw[e]at f;obtain rfl:=az f;obtain⟨m,b⟩:=g c[a] (io _);unfold Ch;rw[bZ d,m,kQ d,<-fM,cO _ _ _ _ d];rcases b with b|b
 ·have:b8 (⟨(c[a]).1,(c[a]).2⟩:An)=6:=b;rw[this];rfl
 ·rw[b];simp
theorem FN{b:List An}{w1 w':ag}{a:au}{c:Nat}{l:List (Tm (nE b))}(q:ie (nE b) (Db b) w1 w' a c l)(j:∀y∈b,aJ y)(r:b.length=4):fU w'.heap.size w' (nE b) l a/\l.length=4/\Dy (nE b) l b/\∀y∈l,aJ ⟨nE b,y⟩:=by
 obtain⟨E,F,G,H,A,f⟩:=q;have D:(Db b).length=4:=by simp[Db,r]
 have t:fU w'.heap.size w' (nE b) l a:=by
  rcases f with f|⟨B,o,p,C,v,f⟩
  ·exact aj f
  ·exact ak ⟨B,o,p,v,λd y i=>⟨(f d y i).1,(f d y i).2.1⟩⟩
 have m:Dy (nE b) l b:=by
  intro d e h;have g:d<l.length:=by have:=(aY.1 h).1;omega
  have z:(Db b)[d]?=some (aZ (nE b) e.1 e.2):=by simp[Db,h]
  have x:=jQ _ _ _ A d l[d] _ (aN g) z;have u:=fN (nE b) e.1 (AJ b e (aL h)) e.2 (j e (aL h));have k:=bP _ _ _ _ _ _ x u;exact⟨l[d],aN g,k,aU.2 (by rw[jR _ _ _ _ k];exact aU.1 (j e (aL h)))⟩
 refine⟨t,by omega,m,λy i=>?_⟩;obtain⟨d,g⟩:=di i;have s:d<b.length:=by have:=(aY.1 g).1;omega
 obtain⟨I,n,_,w⟩:=m d b[d] (aN s);rw[g]at n;obtain rfl:=az n;exact w
def fC:Tm 1:=((6,0,.empty),(none,0),[])
theorem OX(B:Nat)(w:ag):In B w 1 fC:=⟨⟨by simp[fC,dI],by simp[fC,dI],aM _,by simp[fC],by simp[fC]⟩,aj rfl⟩
theorem P8:ci 1 fC=true:=by
 have:(ByteArray.empty).toList=[]:=by rw[cF];rfl
 simp[ci,fC,cN,bL,this]
theorem d1(x:Tm 1)(a:x.1.1≠4):fP 1 x=0/\sz 1 x=0:=by simp[fP,sz,a]
theorem zx:bG 1 fC=0:=by
 rw[vj];have a:=d1 fC (by simp[fC]);exact⟨P8,by rw[a.1];decide,by rw[a.2];decide⟩
theorem JW:gE 1 (List.replicate 4 fC)=true:=by
 have:Ch 1 fC=true:=by
  unfold Ch;rw[zx];rfl
 unfold gE;simp only[List.length_replicate,decide_true,eQ,cG];intro b a;rw[List.eq_of_mem_replicate a];exact this
theorem Cb(w:ag):ao 153 #[] w λe w'=>e=.returned (ae (some ⟨w.heap.size,0,none⟩) 4 4)/\Hid (ie 1 (List.replicate 4 fC) w w' (some ⟨w.heap.size,0,none⟩) 4 (List.replicate 4 fC)):=by
 obtain⟨B,l,q,r,s⟩:=bU gJ;go_enter func153,ntmps153;go_wp2_with (at_make;refine lu _ rfl _ _ 29 rfl w.heap.size 31 B _ 4 underlying29 l q r _ _ _ _ 4 rfl rfl rfl rfl (by rw[s];omega) (by unfold maxLen;omega) (av _) ?_;intro D p b);have i:=aq (rH 1 (List.replicate 4 fC) 4 p);have h:Hid (am w D):=⟨b.os,b.tape,b.output,b.size,λk m=>b.block k m (by simp)⟩;clear p b l q r s;go_loopw [6] (λd wr=>∃k:Nat,k<=4/\d=ab k/\Hid (am w wr/\uP 1 (List.replicate 4 fC) 4 w.heap.size k (List.replicate k fC) wr)) (λd _=>4-(intOf d).toNat)
 case atStart=>exact⟨0,by omega,rfl,h,i⟩
 case round=>
  obtain⟨k,m,rfl,a⟩:=hrel;clear i h;by_cases n:k<4
  ·have t:(List.replicate 4 fC)[k]?=some fC:=by rw[List.getElem?_replicate,if_pos n]
   have j:In wr.heap.size wr 1 fC:=OX _ _;have o:cv (λf=>w.heap.size<f) 1 fC:=by simp[cv,fC]
   have z:=aq (a.2.step n fC t (aA _ _) fC j o (by simp[aB,fC,aG]));have v:Hid (am w (jO wr w.heap.size (k*4) (gF 1 fC))):=by
    have c:=a.1;exact⟨c.os,c.tape,c.output,aF c.size (dO (bD _ _ _ _).symm),λf A=>(bk (by omega) _ _ _ _).trans (c.block f A)⟩
   obtain⟨g,u⟩:∃g,((List.replicate k fC).map (λx=>(⟨1,x⟩:An))++List.replicate (4-k) zA)[k]?=some g:=⟨_,aN (by simp;omega)⟩;obtain⟨E,F,G,H⟩:=a.out.2.2.1.cells k g u;have I:=λC=>a.2.2.1.free C;have J:(0:Int)<=(k:Int):=by omega
   have K:(k:Int)<4:=by omega
   have L:(k:Int)<=4:=by omega
   clear t j o u a;go_wp2_with fail;go_roundw
   case rel=>
    refine⟨k+1,by omega,by go_num,v,?_⟩;have e:List.replicate (k+1) fC=List.replicate k fC++ [fC]:=List.replicate_succ';rw[e];exact z
   case measure=>simp[intOf];omega
  ·obtain rfl:k=4:=by omega
   have y:=aq (a.2.done rfl (by omega) a.1 (by unfold maxLen;omega));go_wp2_with fail
   go_ret
   exact⟨rfl,y⟩
structure bB (S:Nat->Prop) (w w':World):Prop where
 os:w'.os=w.os
 tape:w'.tape=w.tape
 output:w'.output=w.output
 size:w.heap.size<=w'.heap.size
 block:∀b,b<w.heap.size->¬S b->w'.heap[b]?=w.heap[b]?
theorem bB.refl(S:Nat->Prop)(w:World):bB S w w:=⟨rfl,rfl,rfl,av _,λ_ _ _=>rfl⟩
theorem bB.trans{S T:Nat->Prop}{w w1 w2:World}(a:bB S w w1)(k:bB T w1 w2)(e:∀b,b<w.heap.size->T b->S b):bB S w w2:=
 ⟨k.os.trans a.os,k.tape.trans a.tape,k.output.trans a.output,aF a.size k.size,λb c d=>(k.block b (aW c a.size) (λf=>d (e b c f))).trans (a.block b c d)⟩
theorem bB.mono{S T:Nat->Prop}{w w1:World}(a:bB S w w1)(d:∀b,b<w.heap.size->S b->T b):bB T w w1:=⟨a.os,a.tape,a.output,a.size,λb c e=>a.block b c λk=>e (d b c k)⟩
theorem aR{w w':World}(a:Below w.heap.size w w')(S:Nat->Prop):bB S w w':=⟨a.os,a.tape,a.output,a.size,λb c _=>a.block b c⟩
theorem eH{w w':World}{row:Option Nat}(a:w.grownBy w' row):bB (λb=>row=some b) w w':=⟨a.os,a.tape,a.output,a.size,λb c d=>a.block b c λe=>d e.symm⟩
theorem bK(w:World)(q o:Nat)(v:Value):bB (λb=>b=q) w (w.setCell ⟨q,o,none⟩ v):=
 ⟨rfl,rfl,rfl,by simp[World.setCell],λb _ c=>by
  have:q≠b:=λa=>c a.symm
  simp[World.setCell,bQ,this]⟩
theorem bB.below{S:Nat->Prop}{w w':World}{B:Nat}(a:bB S w w')(e:B<=w.heap.size)(c:∀b,b<B->¬S b):Below B w w':=⟨a.os,a.tape,a.output,a.size,λb d=>a.block b (by omega) (c b d)⟩
theorem bB.cell{S:Nat->Prop}{w w':World}(a:bB S w w'){b:Nat}(o:Nat)(d:b<w.heap.size)(c:¬S b):w'.cell? ⟨b,o,none⟩=w.cell? ⟨b,o,none⟩:=by
 simp only[World.cell?,a.block b d c]
theorem bw{base:Nat}{e:TypeId}{sz:Nat}{v:Value}{n:Nat}{xs:List Value}{w w':World}{S:Nat->Prop}(c:w.ownsRow base e sz v n xs)(k:bB S w w')(h:∀b,v.ownBlock=some b->¬S b):w'.ownsRow base e sz v n xs:=by
 refine⟨c.1,?_⟩;rcases c.2 with⟨e,g⟩|⟨a,cap,f,e,i,d,j⟩
 ·exact aj ⟨e,g⟩
 ·exact ak ⟨a,cap,f,e,i,(k.block a (aI.1 d).1 (h a (by rw[e];rfl))).trans d,j⟩
theorem dC.kee{S:Nat->Prop}{w w':World}(a:bB S w w'){b o:Nat}(d:b<w.heap.size)(c:¬S b):{n:Nat}->{x:Tm n}->dC w b o n x->dC w' b o n x
 | 0,_,k=>k
 | _+1,_,k=>by
  obtain⟨e,f,g,h⟩:=k;exact⟨(a.cell _ d c).trans e,(a.cell _ d c).trans f,(a.cell _ d c).trans g,(a.cell _ d c).trans h⟩
theorem In.kee{S:Nat->Prop}{w w':World}(d:bB S w w'):{n:Nat}->{x:Tm n}->In w.heap.size w n x->cv (λb=>¬S b) n x->In w'.heap.size w' n x
 | 0,_,k,_=>k
 | _+1,x,k,o=>by
  obtain⟨p,a⟩:=k;refine⟨p,?_⟩;rcases a with a|⟨b,f,e,h,a⟩
  ·exact aj a
  ·rcases o with o|⟨q,r,c,m,o⟩
   ·exact aj o
   ·rw[e]at c;injection c with c;injection c with j l;subst j l;exact ak ⟨b,f,e,aW h d.size,λi y g=>⟨(a i y g).1.kee d h m,(a i y g).2.kee d (o i y g)⟩⟩
/-! ### the keys -/
theorem mi:WideMaps.ArrKey Tryz.prog 44 3 2:=⟨underlying44,by kernel_rfl,by kernel_rfl,by kernel_rfl⟩
theorem dD:Keyed Tryz.prog 44:=Keyed.of_law mi.law
theorem wW:∃m,Tryz.prog.types.size=m+1:=by
 have a:(Tryz.prog.types.size==0)=false:=by kernel_rfl
 have b:Tryz.prog.types.size≠0:=gW.1 a;exact⟨Tryz.prog.types.size-1,by omega⟩
def pk(k:Int×Int):Value:=.agg #[.int .i64 k.1,.int .i64 k.2]
def kl(k:Int×Int):Lit:=.string (keyBytes [.int .i64 k.1,.int .i64 k.2])
def I2(k:Int×Int):Prop:=dI k.1/\dI k.2
theorem Ow{a:Int}(b:dI a):(Lit.int .i64 a).wf=true:=iU (by unfold dI at b;omega)
theorem Qb{a:Int}(b:(Lit.int .i64 a).wf=true):dI a:=by
 have: -9223372036854775808<=a/\a<=9223372036854775807:=by simpa [Lit.wf,IntKind.min,IntKind.max,IntKind.signed,IntKind.bits]using b
 exact this
theorem dE{k:Int×Int}(a:I2 k):keyOf Tryz.prog 44 (pk k)=some (kl k):=WideMaps.keyOf_pair mi underlying3 wW (Ow a.1) (Ow a.2)
theorem mC{k b:Int×Int}(c:I2 k)(d:I2 b)(e:kl k=kl b):k=b:=by
 have a:=dD.inj (dE c) (e▸dE d);simp only[pk,Value.agg.injEq,Array.mk.injEq,kY,Value.int.injEq,true_and,and_true]at a;exact fJ a.1 a.2
theorem KG{v:Value}{x:Lit}(a:keyOf Tryz.prog 44 v=some x):∃k,I2 k/\v=pk k/\x=kl k:=by
 have r:=a;unfold keyOf at a;simp only[underlying44]at a;split at a
 ·rename_i n;simp only[aK]at n;have f:=n.2;unfold Value.formed at f;cases v<;>simp[underlying44]at f;rename_i q;rw[mi.size]at f;obtain⟨l⟩:=q
  match l,f with
  | [c0,c1],_=>
   simp only[cD]at a;obtain⟨w,d,_⟩:=a;obtain⟨u,s⟩:=wW;rw[s]at d;unfold Program.keyLits at d;simp only[underlying44,Value.cells]at d;rw[if_pos (by rw[mi.size];rfl),show List.range 2=[0,1]from rfl,List.mapM_cons,List.mapM_cons,List.mapM_nil]at d;simp only[cD,bind,bF,pure,mi.one]at d;obtain⟨_,⟨y0,h,_,⟨y1,i,_⟩,_⟩,_⟩:=d;simp only[Nat.zero_mul,List.drop_zero,List.take_succ_cons,ny,Nat.one_mul,List.drop_succ_cons]at h i;have o:∀c p,Program.keyLits Tryz.prog (u+1) 3 [c]=some p->∃e,c=.int .i64 e/\dI e:=by
    intro c p g;unfold Program.keyLits at g;cases c<;>simp[underlying3]at g;obtain⟨⟨rfl,t⟩,_⟩:=g;exact⟨_,rfl,Qb t⟩
   obtain⟨e,rfl,j⟩:=o _ _ h;obtain⟨b,rfl,m⟩:=o _ _ i;refine⟨(e,b),⟨j,m⟩,rfl,?_⟩;have:=dE (k:=(e,b)) ⟨j,m⟩;exact az (r.symm.trans this)
 ·cases a
/-! ### the map -/
def lW(v:Value):Option (DataW Value×List MemPlace):=some (.held v,[])
def fF{a:Type}(f:Int×Int->a)(k:Int×Int)(x:a):Int×Int->a:=λj=>if j=k then x else f j
theorem cw{a:Type}(f:Int×Int->a)(k:Int×Int)(x:a):fF f k x k=x:=if_pos rfl
theorem bH{a:Type}(f:Int×Int->a){k j:Int×Int}(x:a)(b:j≠k):fF f k x j=f j:=if_neg b
def lU:Value:=.slice none 0 0
def dq(N:Nat)(l:List (Tm N)):List Value:=cJ (l.map (gF N))
theorem qk(N:Nat)(l:List (Tm N)):(dq N l).length=l.length*4:=by simp[dq,oI]
theorem qj(N:Nat)(l r:List (Tm N)):dq N (l++r)=dq N l++dq N r:=by simp[dq,vY]
def ot(base N:Nat)(v:Value)(l:List (Tm N))(w:World):Prop:=w.ownsRow base 31 4 v l.length (dq N l)
structure GM (base mb n N:Nat) (f:Int×Int->List (Tm N)) (sl:Int×Int->Value) (w:World):Prop where
 lo:base<=mb
 map:∃D,w.ownsMap Tryz.prog 44 lW mb n D/\(∀k,I2 k->D.atKey (kl k) (.held lU)=.held (sl k))/\∀x,has D x=true ↔∃k,I2 k/\x=kl k/\f k≠[]
 row:∀k,I2 k->ot base N (sl k) (f k) w
 apart:∀k j,I2 k->I2 j->k≠j->∀b,(sl k).ownBlock=some b->(sl j).ownBlock≠some b
def zS(a:Nat)(sl:Int×Int->Value)(b:Nat):Prop:=b=a\/∃k,I2 k/\(sl k).ownBlock=some b
theorem eI{w:World}{base:Nat}{e:TypeId}{sz:Nat}{v:Value}{n:Nat}{xs:List Value}(d:w.ownsRow base e sz v n xs)(b:Nat)(c:v.ownBlock=some b):∃a,w.heap[b]?=some (.cells a e (0,0)):=by
 rcases d.2 with⟨rfl,_⟩|⟨g,cap,a,rfl,_,f,_⟩
 ·simp[Value.ownBlock]at c
 ·simp[Value.ownBlock]at c;subst c;exact⟨a,f⟩
variable {base mb n N:Nat} {f:Int×Int->List (Tm N)} {sl:Int×Int->Value} {w:World}
theorem GM.lt(a:GM base mb n N f sl w)(b:Nat)(c:zS mb sl b):base<=b/\b<w.heap.size:=by
 rcases c with rfl|⟨k,e,c⟩
 ·obtain⟨g,d,_⟩:=a.map;exact⟨a.lo,d.lt⟩
 ·exact(a.row k e).lt b c
theorem GM.ne(a:GM base mb n N f sl w){k:Int×Int}(g:I2 k):(sl k).ownBlock≠some mb:=by
 intro d;obtain⟨c,b⟩:=eI (a.row k g) mb d;obtain⟨h,⟨es,i,e,_⟩,_⟩:=a.map;rw[e]at b;cases b
theorem GM.kee{S:Nat->Prop}{w':World}(a:GM base mb n N f sl w)(k:bB S w w')(e:∀b,zS mb sl b->¬S b):GM base mb n N f sl w':=by
 refine⟨a.lo,?_,λh g=>bw (a.row h g) k λb c=>e b (ak ⟨h,g,c⟩),a.apart⟩;obtain⟨i,d,l⟩:=a.map;refine⟨i,?_,l⟩;have m:=d.lt;obtain⟨es,j,c,o⟩:=d;exact⟨es,j,(k.block mb m (e mb (aj rfl))).trans c,o⟩
theorem GM.mono(b:GM base mb n N f sl w){m:Nat}(i:n<=m):GM base mb m N f sl w:=by
 obtain⟨c,⟨a,d,e⟩,g,h⟩:=b;exact⟨c,⟨a,d.mono i,e⟩,g,h⟩
theorem GM.new(w:World)(N:Nat):GM w.heap.size w.heap.size 0 N (λ_=> []) (λ_=>lU) (w.alloc (.map #[] 0)):=
 ⟨av _,⟨.map [],nD w _ _ _,λk _=>by simp[DataW.atKey],λx=>⟨λa=>by simp[has]at a,λ⟨k,_,_,a⟩=>absurd rfl a⟩⟩,
  λk _=>⟨by simp[dq,cJ],aj ⟨rfl,rfl⟩⟩,λk d _ _ _ b c=>by simp[lU,Value.ownBlock]at c⟩
theorem ot.rebase{a:Nat}{v:Value}{l:List (Tm N)}(b:ot base N v l w)(c:a<=base):ot a N v l w:=sg b c
theorem GM.rebase{b:Nat}(a:GM base mb n N f sl w)(c:b<=base):GM b mb n N f sl w:=
 ⟨aF c a.lo,a.map,λk d=>(a.row k d).rebase c,a.apart⟩
theorem Ct{v:Value}{d:DataW Value}{ps:List MemPlace}(a:lW v=some (d,ps)):d=.held v:=by
 unfold lW at a;injection a with a;injection a with b c;exact b.symm
theorem sG(w:World):(zeroValue 29).run Tryz.prog w=.ok (.slice none 0 0) w:=by kernel_rfl
theorem GM.look(d:GM base mb n N f sl w){k:Int×Int}(b:I2 k):(Instr.lookup 51 (.map (some mb)) (pk k) false).run Tryz.prog w=.ok (sl k) w:=by
 obtain⟨i,e,g,_⟩:=d.map;obtain⟨j,ps,h,c⟩:=e.lookup dD underlying51 (sG w) (zd:=.held lU) (zp:=[]) rfl (dE b);rw[g k b]at c;have a:=Ct c;injection a with a;rw[h,a]
theorem Hy(w:World){k:Int×Int}(b:I2 k):(Instr.lookup 51 (.map none) (pk k) false).run Tryz.prog w=.ok (.slice none 0 0) w:=by
 have a:=look_nil (P:=Tryz.prog) (w:=w) false dD underlying51 (sG w) (dE b);simpa using a
theorem sL{D:DataW Value}(f:IsMap D){k j:Int×Int}(e:I2 k)(b:I2 j)(v:Value)(c:DataW Value):(D.put (kl k) (.held v)).atKey (kl j) c=if j=k then .held v else D.atKey (kl j) c:=by
 by_cases a:j=k
 ·subst a;rw[if_pos rfl,atKey_put_same f (dD.key (dE b))]
 ·rw[if_neg a,atKey_put_other λd=>a (mC b e d)]
theorem GM.put_of(h:GM base mb n N f sl w){k:Int×Int}(i:I2 k){w1 w2:World}(E:bB (λb=>b=mb\/(sl k).ownBlock=some b) w w1){v:Value}{l:List (Tm N)}(H:l≠[])(J:ot base N v l w1)(z:∀b,v.ownBlock=some b->(sl k).ownBlock=some b\/w.heap.size<=b)(y:bB (λb=>b=mb) w1 w2)(K:∀D,w.ownsMap Tryz.prog 44 lW mb n D->w2.ownsMap Tryz.prog 44 lW mb (n+1) (D.put (kl k) (.held v))):GM base mb (n+1) N (fF f k l) (fF sl k v) w2:=by
 obtain⟨D,j,C,t⟩:=h.map;have M:=j.lt;have I:∀b,v.ownBlock=some b->b≠mb:=λb e a=>by
  subst a;rcases z b e with a|a
  ·exact h.ne i a
  ·omega
 have A:∀c,I2 c->c≠k->∀b,(sl c).ownBlock=some b->v.ownBlock≠some b:=λc d G b e L=>by
  rcases z b L with a|a
  ·exact h.apart c k d i G b e a
  ·have:=((h.row c d).lt b e).2;omega
 refine⟨h.lo,⟨_,K D j,λc d=>?_,λx=>?_⟩,λc d=>?_,λp c u d o b=>?_⟩
 ·rw[sL j.isMap i d];unfold fF;split
  ·rfl
  ·exact C c d
 ·constructor
  ·intro B;by_cases a:x=kl k
   ·exact⟨k,i,a,by rw[cw];exact H⟩
   ·rw[has_put_other a]at B;obtain⟨c,d,s,m⟩:=(t x).1 B;refine⟨c,d,s,?_⟩;rw[bH _ _ λg=>a (by rw[s,g])];exact m
  ·rintro ⟨c,d,rfl,m⟩;by_cases a:c=k
   ·rw[a,has_put_same j.isMap (dD.key (dE i))]
   ·rw[has_put_other λg=>a (mC d i g)];rw[bH _ _ a]at m;exact(t _).2 ⟨c,d,rfl,m⟩
 ·by_cases a:c=k
  ·subst a;rw[cw,cw];exact bw J y λb e a=>I b e a
  ·rw[bH _ _ a,bH _ _ a];refine bw (bw (h.row c d) E λb e g=>?_) y λb e g=>h.ne d (by rw[e,g]);rcases g with g|g
   ·exact h.ne d (by rw[e,g])
   ·exact h.apart c k d i a b e g
 ·by_cases q:p=k
  ·subst q;rw[cw,bH _ _ λa=>o a.symm];exact λe F=>A c d (λa=>o a.symm) b F e
  ·rw[bH _ _ q];by_cases r:c=k
   ·subst r;rw[cw];exact λe=>A p u o b e
   ·rw[bH _ _ r];exact h.apart p c u d o b
theorem gh{w2:World}(a:w.mapTurned w2 mb):bB (λb=>b=mb) w w2/\w2.heap.size=w.heap.size:=by
 refine⟨(eH a.grown).mono λb _ c=>(az c).symm,?_⟩;obtain⟨_,_,_,_,_,rfl⟩:=a;simp[ChangeMaps.setBlock]
theorem GM.store(g:GM base mb n N f sl w){k:Int×Int}(h:I2 k){w1:World}(i:bB (λb=>(sl k).ownBlock=some b) w w1){v:Value}{l:List (Tm N)}(x:l≠[])(A:ot base N v l w1)(y:∀b,v.ownBlock=some b->(sl k).ownBlock=some b\/w.heap.size<=b)(F:n<1000000):∃w2,(Instr.mapUpdate 51 (.map (some mb)) (pk k) v).run Tryz.prog w1=.ok () w2/\GM base mb (n+1) N (fF f k l) (fF sl k v) w2/\bB (λb=>b=mb) w1 w2/\w2.heap.size=w1.heap.size:=by
 have p:∀a,w.ownsMap Tryz.prog 44 lW mb n a->∃w2,(Instr.mapUpdate 51 (.map (some mb)) (pk k) v).run Tryz.prog w1=.ok () w2/\w2.ownsMap Tryz.prog 44 lW mb (n+1) (a.put (kl k) (.held v))/\w1.mapTurned w2 mb:=by
  intro a c;have z:=c.lt;have t:w1.ownsMap Tryz.prog 44 lW mb n a:=by
   obtain⟨es,r,u,C⟩:=c;exact⟨es,r,(i.block mb z (g.ne h)).trans u,C⟩
  exact t.store (d:=.held v) (ps:=[]) dD underlying51 (by unfold maxLen;omega) (dE h) rfl
 obtain⟨a,c,_⟩:=g.map;obtain⟨w2,m,_,E⟩:=p a c;obtain⟨j,D⟩:=gh E;refine⟨w2,m,g.put_of h (i.mono λb _ e=>ak e) x A y j (λq s=>?_),j,D⟩;obtain⟨G,o,B,_⟩:=p q s;rw[m]at o;injection o with _ e;rw[e];exact B
theorem GM.entry(s:GM base mb n N f sl w){k:Int×Int}(g:I2 k)(ak:n<1000000):∃(q:Nat)(w1:World),(Instr.mapEntry 51 (.map (some mb)) (pk k)).run Tryz.prog w=.ok (.tuple #[sl k,goInt q]) w1/\bB (λb=>b=mb) w w1/\w1.heap.size=w.heap.size/\ ∀(w2:World)(v:Value)(l:List (Tm N)),w2.heap[mb]?=w1.heap[mb]? ->bB (λb=>b=mb\/(sl k).ownBlock=some b) w w2->l≠[]->ot base N v l w2->(∀b,v.ownBlock=some b->(sl k).ownBlock=some b\/w.heap.size<=b)-> ∃i,(Instr.entryStore 51 (.map (some mb)) (goInt q) v).run Tryz.prog w2=.ok () i/\GM base mb (n+1) N (fF f k l) (fF sl k v) i/\bB (λb=>b=mb) w2 i/\i.heap.size=w2.heap.size:=by
 obtain⟨I,t,aj,_⟩:=s.map;obtain⟨es,r,c,j,Z,P⟩:=t;have t:w.ownsMap Tryz.prog 44 lW mb n I:=⟨es,r,c,j,Z,P⟩;obtain⟨ah,q,o,m,X,H,aa⟩:=WideElems.entry_then_store (e:=29) mi.law underlying51 sG c j (dE g);have K:ah=sl k:=by
  have x:=s.look g;obtain⟨am,ps,Y,al⟩:=t.lookup dD underlying51 (sG w) (zd:=.held lU) (zp:=[]) rfl (dE g);rw[x]at Y;rcases Maps.fit_look false dD underlying51 (sG w) c j (dE g)with⟨a,z,_⟩|⟨L,an,E,p,a,_⟩
  ·rw[x]at a;injection a with a _;rcases H with⟨B,y,h,_⟩|⟨_,rfl⟩
   ·exact absurd h (z B y)
   ·exact a.symm
  ·rw[x]at a;injection a with a _;rcases H with⟨B,y,h,rfl⟩|⟨z,_⟩
   ·have:=entry_eq_of_key ((MapKept.stamped_iff es r).1 j.stamped).2.2 E y (p.trans h.symm);simp at a;rw[a,this]
   ·exact absurd p (z L E)
 subst K;have ab:w.mapTurned (ChangeMaps.setBlock w mb (.map o m)) mb:=⟨es,r,o,m,c,rfl⟩;obtain⟨p,af⟩:=gh ab;refine⟨q,_,X,p,af,λw2 v l ae Q R T S=>?_⟩;have u:w2.heap[mb]?=some (.map o m):=ae.trans (jv c _);obtain⟨C,A,U,V⟩:=aa w2 v u;have ad:w2.mapTurned (ChangeMaps.setBlock w2 mb (.map C A)) mb:=⟨o,m,C,A,u,rfl⟩;obtain⟨h,ag⟩:=gh ad;refine⟨_,U,s.put_of g Q R T S h (λai O=>?_),h,ag⟩;obtain⟨i,G,F,_⟩:=O.store (d:=.held v) (ps:=[]) dD underlying51 (by unfold maxLen;omega) (dE g) rfl;rw[V]at G;injection G with _ e;rw[<-e]at F;obtain⟨M,J,D,W⟩:=F;rw[jv c]at D;exact⟨M,J,(jv u _).trans D,W⟩
theorem GM.drop(h:GM base mb n N f sl w){k:Int×Int}(l:I2 k)(ty:TypeId):∃w2,(Builtin.delete_ #[51,44] ty #[.map (some mb),pk k]).run Tryz.prog w=.ok (.tuple #[]) w2/\GM base mb n N (fF f k []) (fF sl k lU) w2/\bB (λb=>b=mb) w w2/\w2.heap.size=w.heap.size:=by
 obtain⟨D,t,u,q⟩:=h.map;obtain⟨w2,A,z,C⟩:=t.drop dD underlying51 (dE l) ty;obtain⟨r,B⟩:=gh C;refine⟨w2,A,⟨h.lo,⟨_,z,λc d=>?_,λx=>?_⟩,λc d=>?_,λs c v d y b=>?_⟩,r,B⟩
 ·by_cases a:c=k
  ·subst a;rw[cw,atKey_del_same]
  ·rw[bH _ _ a,atKey_del_other λe=>a (mC d l e)];exact u c d
 ·constructor
  ·intro j;by_cases a:x=kl k
   ·rw[a,has_del_same]at j;cases j
   ·rw[has_del_other a]at j;obtain⟨c,d,p,g⟩:=(q x).1 j;refine⟨c,d,p,?_⟩;rw[bH _ _ λe=>a (by rw[p,e])];exact g
  ·rintro ⟨c,d,rfl,g⟩;by_cases a:c=k
   ·rw[a,cw]at g;exact absurd rfl g
   ·rw[has_del_other λe=>a (mC d l e)];rw[bH _ _ a]at g;exact(q _).2 ⟨c,d,rfl,g⟩
 ·by_cases a:c=k
  ·subst a;rw[cw,cw];exact⟨by simp[dq,cJ],aj ⟨rfl,rfl⟩⟩
  ·rw[bH _ _ a,bH _ _ a];exact bw (h.row c d) r λb i e=>h.ne d (by rw[i,e])
 ·by_cases m:s=k
  ·subst m;rw[cw];intro i;simp[lU,Value.ownBlock]at i
  ·rw[bH _ _ m];by_cases o:c=k
   ·subst o;rw[cw];intro _ i;simp[lU,Value.ownBlock]at i
   ·rw[bH _ _ o];exact h.apart s c v d y b
theorem xy{P:Program}(w:ag)(t ty e:TypeId)(i:TypeInfo)(x:P.underlying t=some (.slice e))(r:P.info? e=some i)(g d k:Nat)(f:Array ar)(q:w.heap[g]?=some (.cells f e (0,0)))(a:Addr)(m c:Nat)(b:List ar)(s:b.length=m*i.size)(u:∀j h,b[j]?=some h->w.cell? (a.add j)=some h)(n:∀h∈b,h.oneCell'=true)(v:d+m<=k)(p:d*i.size+b.length<=f.size):(Builtin.append_ #[t,t] ty #[ae (some ⟨g,0,none⟩) d k,ae (some a) m c]).run P w= .ok (ae (some ⟨g,0,none⟩) (d+m) k) (w.setRow g (f.toList.take (d*i.size)++b++f.toList.drop (d*i.size+b.length)).toArray):=by
 have o:=run_firstCells_some (P:=P) w i.size m a m c b s u;have l:=pT P g (d*i.size) e b 0 f w q (by simpa using p) n;simp only[iT]at l;simp[Builtin.append_,cu x,sizeOf,typeInfo,r,Builtin.lenOf,v,o,eP,l]
theorem Hl:(Tryz.prog.info? 31).map (λi=>(i.zero,i.size,i.bytes))=some (some (.agg #[ab 0,ab 0,af ⟨#[]⟩,ae none 0 0]),4,56):=by kernel_rfl
def qr:List ar:=[ab 0,ab 0,af ⟨#[]⟩,ae none 0 0]
theorem xA(w:ag)(ty:TypeId)(g o c:Nat)(a:Array ar)(e:w.heap[g]?=some (.cells a 31 (0,0)))(d:o+4<=a.size):(Builtin.clear_ #[29] ty #[ae (some ⟨g,o,none⟩) 1 c]).run Tryz.prog w=.ok (.tuple #[]) (w.setRow g (a.toList.take o++qr++a.toList.drop (o+4)).toArray):=by
 have b:=pT Tryz.prog g o 31 qr 0 a w e (by simpa [qr]using d) (by simp[qr,Value.oneCell']);have h:(Builtin.zeroCells (Value.agg #[ab 0,ab 0,af ⟨#[]⟩,ae none 0 0]).cells 1).toList=qr:=by
  simp[Builtin.zeroCells,Value.cells,qr];rfl
 simp only[iT]at b;have f:qr.length=4:=rfl;rw[f]at b;simp[Builtin.clear_,cu underlying29,h,b]
theorem LJ(w:ag)(g L c:Nat)(b:L<=c)(d:1<=L):(Instr.slice 29 (ae (some ⟨g,0,none⟩) L c) (some (ab 0)) (some (ab 1)) (some (ab L))).run Tryz.prog w=.ok (ae (some ⟨g,0,none⟩) 1 L) w:=by
 have a:(1:Int)<=(L:Int):=by omega
 simp[Instr.slice,cu underlying29,Instr.sliceBounds,Instr.sliceBound,asIntOf,a,b,go_sem]
theorem EQ(w:ag)(g L c:Nat):(Instr.slice 29 (ae (some ⟨g,0,none⟩) L c) none (some (ab 0)) none).run Tryz.prog w=.ok (ae (some ⟨g,0,none⟩) 0 c) w:=by
 simp[Instr.slice,cu underlying29,Instr.sliceBounds,Instr.sliceBound,asIntOf,go_sem]
theorem ER(w:ag)(g L c:Nat)(d:L<=c)(e:2<=L):(Instr.slice 29 (ae (some ⟨g,0,none⟩) L c) (some (ab 1)) none none).run Tryz.prog w=.ok (ae (some ⟨g,4,none⟩) (L-1) (c-1)) w:=by
 have a:(1:Int)<=(L:Int):=by omega
 have b:¬c=1:=by omega
 simp[Instr.slice,cu underlying29,Instr.sliceBounds,Instr.sliceBound,asIntOf,a,b,go_sem,eP]
theorem EP(w:ag)(g m c:Nat)(e:m+1<=c):(Instr.slice 29 (ae (some ⟨g,0,none⟩) m c) (some (ab m)) (some (ab ((m:Int)+1))) none).run Tryz.prog w=.ok (ae (some ⟨g,m*4,none⟩) 1 (c-m)) w:=by
 have a:¬c=m:=by omega
 have b:(m:Int)+1<=(c:Int):=by omega
 have d:(0:Int)<=(m:Int)+1:=by omega
 simp[Instr.slice,cu underlying29,Instr.sliceBounds,Instr.sliceBound,asIntOf,a,b,d,go_sem,eP]
theorem ur{w w':ag}{v x' c:ar}{b:Array Oper}{o:Oper}{a:Act}{K:Act->ag->Prop}{Q:Exit->Act->ag->Prop}{E:Prop}(e:o.guard=none)(s x:Operand)(f:o.op=.call {callee:=.builtin .append,args:= #[s,x],argTypes:= #[29,29]})(h:a.eval s=v)(j:a.eval x=x')(g:(Builtin.append_ #[29,29] o.type #[v,x']).run Tryz.prog w=.ok c w')(d:K (a.put o.dst c) w'):if Region.wanted o (yielded b a.tmps)=true then Oper.wp Tryz.prog o a w K Q else E:=by
 have i:Region.wanted o (yielded b a.tmps)=true:=by simp[Region.wanted,e]
 rw[if_pos i];unfold Oper.wp execOp;simp only[f,resolve,invoke,builtin,Sem.run_bind,Sem.run_pure,nC,nu,aV,cC,h,j,g];exact d
theorem ai{w:ag}{g:Nat}{a:Array ar}{e:TypeId}(b:w.heap[g]?=some (.cells a e (0,0)))(j:Nat):w.cell? ⟨g,j,none⟩=a.toList[j]? :=by
 simp[World.cell?,b]
theorem DL{N:Nat}(base g c m:Nat)(y:Tm N)(l:List (Tm N))(w:ag)(j:l.length=m)(D:ot base N (ae (some ⟨g,0,none⟩) (m+1) c) (y::l) w)(E:l≠[]):ao 84 #[ae (some ⟨g,0,none⟩) ((m:Nat)+1) c,ab 0,ab 1] w λe w'=>e=.returned (ae (some ⟨g,0,none⟩) m c)/\ot base N (ae (some ⟨g,0,none⟩) m c) l w'/\w.grownBy w' (some g)/\w'.heap.size=w.heap.size:=by
 obtain⟨S,L,Z,Q,aa⟩:=bU Hl;have Y:0<m:=by
  rw[<-j];exact List.length_pos_iff.2 E
 obtain⟨F,G⟩:=D;rcases G with⟨e,_⟩|⟨V,cap,d,e,K,r,I,J,u,t⟩
 ·cases e
 ·injection e with i B C;injection i with i;injection i with i _;subst i C;simp only[bu,j]at F I t B;have q:d.toList.length=c*4:=by rw[iM,u]
  have O:d.toList.take ((m+1)*4)=dq N [y]++dq N l:=by
   rw[t,<-qj];rfl
  have T:(dq N [y]).length=4:=by rw[qk];rfl
  have f:(dq N l).length=m*4:=by rw[qk,j]
  have A:Hid (∀a:ag,a.heap[g]?=some (.cells d 31 (0,0))->∀n o,(dq N l)[n]?=some o->a.cell? ((⟨g,4,none⟩:Addr).add n)=some o):=by
   intro a h n o s;have X:=(aY.1 s).1;rw[eP,ai h];have e:(d.toList.take ((m+1)*4))[4+n]?=some o:=by
    rw[O,dM (by omega),T,Nat.add_sub_cancel_left];exact s
   rw[jB]at e;split at e
   ·exact e
   ·cases e
  have v:Hid (∀(a:ag)(ty:TypeId),a.heap[g]?=some (.cells d 31 (0,0))->(Builtin.append_ #[29,29] ty #[ae (some ⟨g,0,none⟩) 0 c,ae (some ⟨g,4,none⟩) m (c-1)]).run Tryz.prog a=
   .ok (ae (some ⟨g,0,none⟩) m c) (a.setRow g (dq N l++d.toList.drop (m*4)).toArray)):=by
   intro a ty h;have p:=xy (P:=Tryz.prog) a 29 ty 31 S underlying29 L g 0 c d h ⟨g,4,none⟩ m (c-1) (dq N l) (by rw[f,Q]) (A a h) (tM _) (by omega) (by rw[f,u];omega);simpa [f]using p
  have z:Hid (∀(a:ag)(ty:TypeId),a.heap[g]?=some (.cells (dq N l++d.toList.drop (m*4)).toArray 31 (0,0))->(Builtin.clear_ #[29] ty #[ae (some ⟨g,m*4,none⟩) 1 (c-m)]).run Tryz.prog a=
   .ok (.tuple #[]) (a.setRow g (dq N l++qr++d.toList.drop ((m+1)*4)).toArray)):=by
   intro a ty h;have p:=xA a ty g (m*4) (c-m) _ h (by simp only[eh,bt,fo,f,q];omega);rw[p];refine congrArg (λx=>Result.ok (Value.tuple #[]) (a.setRow g (List.toArray x))) ?_;rw[pP,iR (by omega),bA (by omega),List.drop_append,pJ (by omega),f,List.drop_drop,iq];rw[show m*4+(m*4+4-m*4)=(m+1)*4 by omega]
  have H:=v w.drew 29 r;have HB:Hid ((w.drew.setRow g (dq N l++d.toList.drop (m*4)).toArray).heap[g]?=some (.cells (dq N l++d.toList.drop (m*4)).toArray 31 (0,0))):=setRow_heap w.drew g d _ _ _ r;have W:=λty:TypeId=>z _ ty HB;have ad:=λa:ag=>LJ a g (m+1) c (by omega) (by omega);have af:=λa:ag=>EQ a g (m+1) c;have U:=λa:ag=>ER a g (m+1) c (by omega) (by omega);have ah:=λa:ag=>EP a g m c (by omega);rw[fp]at U;go_enter func84,ntmps84;go_wp2_with fail;go_region_held3 (λ_=>True) (trivial) ((first|(refine ur rfl _ _ rfl (by simp[Act.eval]) (by simp[Act.eval]) H ?_)));go_wp2_with fail
  go_ret
  have k:∀b,b≠g->((w.drew.setRow g (dq N l++d.toList.drop (m*4)).toArray).setRow g (dq N l++(qr++d.toList.drop ((m+1)*4))).toArray).heap[b]?=w.heap[b]? :=λb k=>(setRow_other _ _ _ _ k).trans (setRow_other _ _ _ _ k);refine⟨rfl,⟨by rw[f,j],ak ⟨g,c,_,by rw[j],K,setRow_heap _ _ _ _ _ _ HB,by omega,J,?_,?_⟩⟩,⟨rfl,rfl,rfl,by simp,λb _ M=>k b λe=>M (by rw[e])⟩,by simp⟩
  ·have R:qr.length=4:=rfl;simp only[eh,bt,fo,f,q,R];omega
  ·rw[pP,iR (by omega),bA (by omega)]
abbrev Ac(n:Nat):Type:=Int×(Tm n×Tm n)×(ap×Int)
abbrev Cl(n:Nat):Type:=(Tm n×Tm n×Tm n)×(au×Nat)×List (Ac n)
abbrev Bh(n:Nat):Type:=ap×(au×Nat)×List (Cl n)
def iL(n:Nat)(x:Tm n):List ar:=uh (gF n x)
def gC(n:Nat)(a:Ac n):List ar:=ab a.1::(iL n a.2.1.1++iL n a.2.1.2++ [af a.2.2.1,ab a.2.2.2])
def fq(n:Nat)(c:Cl n):List ar:=iL n c.1.1++iL n c.1.2.1++(ae c.2.1.1 c.2.2.length c.2.1.2::iL n c.1.2.2)
def pW(n:Nat)(b:Bh n):List ar:=[af b.1,ae b.2.1.1 b.2.2.length b.2.1.2]
def qv{c:Type}(B:Nat)(w:ag)(k:Nat)(f:c->List ar)(i:c->Prop)(a:au)(l:List c):Prop:=
 l=[]\/∃b o,a=some ⟨b,o,none⟩/\b<B/\∀(e:Nat)(d:c),l[e]?=some d->(∀(g:Nat)(h:ar),(f d)[g]?=some h->ah w b (o+e*k+g) h)/\i d
def iY(n:Nat)(B:Nat)(w:ag)(a:Ac n):Prop:=dI a.1/\In B w n a.2.1.1/\In B w n a.2.1.2/\a.2.2.1.size<=maxLen/\dI a.2.2.2
def iz(n:Nat)(B:Nat)(w:ag)(c:Cl n):Prop:=(In B w n c.1.1/\In B w n c.1.2.1/\In B w n c.1.2.2)/\(c.2.2.length<=c.2.1.2/\c.2.1.2<=maxLen)/\qv B w 11 (gC n) (iY n B w) c.2.1.1 c.2.2
def pU(n:Nat)(B:Nat)(w:ag)(b:Bh n):Prop:=b.1.size<=maxLen/\(b.2.2.length<=b.2.1.2/\b.2.1.2<=maxLen)/\qv B w 13 (fq n) (iz n B w) b.2.1.1 b.2.2
def ub{c:Type}(d:c->Prop)(P:aO)(a:au)(l:List c):Prop:=l=[]\/∃b o,a=some ⟨b,o,none⟩/\P b/\∀y∈l,d y
def mG(n:Nat)(P:aO)(a:Ac n):Prop:=cv P n a.2.1.1/\cv P n a.2.1.2
def ki(n:Nat)(P:aO)(c:Cl n):Prop:=(cv P n c.1.1/\cv P n c.1.2.1/\cv P n c.1.2.2)/\ub (mG n P) P c.2.1.1 c.2.2
def kh(n:Nat)(P:aO)(b:Bh n):Prop:=ub (ki n P) P b.2.1.1 b.2.2
def kj{d:Type}(e:Nat->ag->d->Prop)(f:(Nat->Prop)->d->Prop):Prop:=
 (∀(c h:aO)(x:d),(∀b,c b->h b)->f c x->f h x)/\(∀(c:aO)(a:Nat)(w:ag)(x:d),f c x->e a w x->f (λb=>c b/\b<a) x)/\
 (∀(c:aO)(a:Nat)(w i:ag)(x:d),(∀b,c b->i.heap[b]?=w.heap[b]?)->f c x->e a w x->e a i x)/\(∀(a g:Nat)(w:ag)(x:d),a<=g->e a w x->e g w x)/\
 (∀(a:Nat)(w:ag)(x:d),e a w x->f (λb=>b<a) x)
theorem ph{B:Nat}{w:ag}:{n:Nat}->{x:Tm n}->In B w n x->cv (λb=>b<B) n x
 | 0,_,k=>k
 | _+1,_,k=>by
  obtain⟨_,a⟩:=k;rcases a with a|⟨b,o,e,c,a⟩
  ·exact aj a
  ·exact ak ⟨b,o,e,c,λi y d=>ph (a i y d).2⟩
theorem eA(n:Nat):kj (λB w x=>In B w n x) (λP x=>cv P n x):=
 ⟨λ_ _ _ a k=>k.mono a,λ_ _ _ _ a k=>In.offB a k,λ_ _ _ _ _ a b k=>In.off a b k,λ_ _ _ _ a k=>k.mono a,λ_ _ _ k=>ph k⟩
theorem fV(n:Nat):kj (iY n) (mG n):=by
 obtain⟨t1,t2,t3,t4,t5⟩:=eA n
 exact⟨λc e x b k=>⟨t1 c e _ b k.1,t1 c e _ b k.2⟩,λc a w x b k=>⟨t2 c a w _ b.1 k.2.1,t2 c a w _ b.2 k.2.2.1⟩,
  λc a w g x b f k=>⟨k.1,t3 c a w g _ b f.1 k.2.1,t3 c a w g _ b f.2 k.2.2.1,k.2.2.2⟩,λa d w x b k=>⟨k.1,t4 a d w _ b k.2.1,t4 a d w _ b k.2.2.1,k.2.2.2⟩,
  λa w x k=>⟨t5 a w _ k.2.1,t5 a w _ k.2.2.1⟩⟩
theorem cQ{q:Type}{r:Nat->ag->q->Prop}{s:(Nat->Prop)->q->Prop}(d:kj r s)(k:Nat)(f:q->List ar)(a:au):kj (λB w l=>qv B w k f (r B w) a l) (λP l=>ub (s P) P a l):=by
 obtain⟨t1,t2,t3,t4,t5⟩:=d;refine⟨λP u x d k=>?_,λP B w x d k=>?_,λP B w D x d m k=>?_,λB t w x d k=>?_,λB w x k=>?_⟩
 ·rcases k with k|⟨b,o,g,i,k⟩
  ·exact aj k
  ·exact ak ⟨b,o,g,d b i,λc e=>t1 P u c d (k c e)⟩
 ·rcases k with k|⟨b,o,g,i,k⟩
  ·exact aj k
  ·rcases d with d|⟨v,A,j,n,d⟩
   ·exact aj d
   ·rw[g]at j;simp at j;obtain⟨rfl,rfl⟩:=j;refine ak ⟨b,o,g,⟨n,i⟩,λc e=>?_⟩;obtain⟨h,p⟩:=di e;exact t2 P B w c (d c e) (k h c p).2
 ·rcases k with k|⟨b,o,g,i,k⟩
  ·exact aj k
  ·rcases m with m|⟨v,A,j,n,m⟩
   ·exact aj m
   ·rw[g]at j;simp at j;obtain⟨rfl,rfl⟩:=j;exact ak ⟨b,o,g,i,λh c e=>⟨λz C y=>(bE (d b n) _).trans ((k h c e).1 z C y),t3 P B w D c d (m c (aL e)) (k h c e).2⟩⟩
 ·rcases k with k|⟨b,o,g,i,k⟩
  ·exact aj k
  ·exact ak ⟨b,o,g,by omega,λh c e=>⟨(k h c e).1,t4 B t w c d (k h c e).2⟩⟩
 ·rcases k with k|⟨b,o,g,i,k⟩
  ·exact aj k
  ·refine ak ⟨b,o,g,i,λc e=>?_⟩;obtain⟨h,p⟩:=di e;exact t5 B w c (k h c p).2
theorem eK(n:Nat):kj (iz n) (ki n):=by
 obtain⟨t1,t2,t3,t4,t5⟩:=eA n;have d:=λi=>cQ (fV n) 11 (gC n) i
 exact⟨λc f x b k=>⟨⟨t1 c f _ b k.1.1,t1 c f _ b k.1.2.1,t1 c f _ b k.1.2.2⟩,(d _).1 c f _ b k.2⟩,
  λc a w x b k=>⟨⟨t2 c a w _ b.1.1 k.1.1,t2 c a w _ b.1.2.1 k.1.2.1,t2 c a w _ b.1.2.2 k.1.2.2⟩,(d _).2.1 c a w _ b.2 k.2.2⟩,
  λc a w h x b g k=>⟨⟨t3 c a w h _ b g.1.1 k.1.1,t3 c a w h _ b g.1.2.1 k.1.2.1,t3 c a w h _ b g.1.2.2 k.1.2.2⟩,k.2.1,(d _).2.2.1 c a w h _ b g.2 k.2.2⟩,
  λa e w x b k=>⟨⟨t4 a e w _ b k.1.1,t4 a e w _ b k.1.2.1,t4 a e w _ b k.1.2.2⟩,k.2.1,(d _).2.2.2.1 a e w _ b k.2.2⟩,
  λa w x k=>⟨⟨t5 a w _ k.1.1,t5 a w _ k.1.2.1,t5 a w _ k.1.2.2⟩,(d _).2.2.2.2 a w _ k.2.2⟩⟩
theorem ex(n:Nat):kj (pU n) (kh n):=by
 have c:=λg=>cQ (eK n) 13 (fq n) g
 exact⟨λd f x b k=>(c _).1 d f _ b k,λd a w x b k=>(c _).2.1 d a w _ b k.2.2,λd a w i x b h k=>⟨k.1,k.2.1,(c _).2.2.1 d a w i _ b h k.2.2⟩,
  λa e w x b k=>⟨k.1,k.2.1,(c _).2.2.2.1 a e w _ b k.2.2⟩,λa w x k=>(c _).2.2.2.2 a w _ k.2.2⟩
def gG(n:Nat)(B:Nat)(w:ag)(a:au)(l:List (Bh n)):Prop:=qv B w 2 (pW n) (pU n B w) a l
theorem kj.below{c:Type}{a:Nat->ag->c->Prop}{e:(Nat->Prop)->c->Prop}(d:kj a e){B:Nat}{w w':ag}(f:Below B w w'){x:c}(k:a B w x):a B w' x:=
 d.2.2.1 (λb=>b<B) B w w' x (λb g=>f.block b g) (d.2.2.2.2 B w x k) k
theorem kj.mono{b:Type}{a:Nat->ag->b->Prop}{c:(Nat->Prop)->b->Prop}(d:kj a c){B C:Nat}(e:B<=C){w:ag}{x:b}(k:a B w x):a C w x:=d.2.2.2.1 B C w x e k
theorem gG.below{n B:Nat}{w w':ag}{a:au}{l:List (Bh n)}(b:Below B w w')(k:gG n B w a l):gG n B w' a l:=(cQ (ex n) 2 (pW n) a).below b k
theorem gG.mono{n B C:Nat}(b:B<=C){w:ag}{a:au}{l:List (Bh n)}(k:gG n B w a l):gG n C w a l:=(cQ (ex n) 2 (pW n) a).mono b k
def fy{a:Type}(d:Nat->ag->a->Prop)(e:(Nat->Prop)->a->Prop)(f:a->List ar)(k:Nat)(T:TypeId)(B base:Nat)(xs:List a)(v:ar)(w0 wr:ag):Prop:=
 Below base w0 wr/\wr.ownsRow base T k v xs.length (xs.flatMap f)/\∀c∈xs,d wr.heap.size wr c/\e (λb=>(b<B\/base<=b)/\v.ownBlock≠some b) c
theorem fy.nil{a:Type}{b:Nat->ag->a->Prop}{c:(Nat->Prop)->a->Prop}{f:a->List ar}{k:Nat}{T:TypeId}{B base:Nat}(w:ag):fy b c f k T B base [] (ae none 0 0) w w:=
 ⟨aA _ _,eU _ _ _ _,λe d=>by cases d⟩
theorem fy.later{b:Type}{c:Nat->ag->b->Prop}{d:(Nat->Prop)->b->Prop}(e:kj c d){f:b->List ar}{k:Nat}{T:TypeId}{B base:Nat}{xs:List b}{v:ar}{w0 wr w1:ag}(j:fy c d f k T B base xs v w0 wr)(l:base<=wr.heap.size)(a:am wr w1):fy c d f k T B base xs v w0 w1:=by
 obtain⟨m,n,h⟩:=j;exact⟨m.trans (a.mono l),eq n a,λi g=>⟨e.mono a.size (e.below a (h i g).1),(h i g).2⟩⟩
theorem fy.step{q:Type}{r:Nat->ag->q->Prop}{s:(Nat->Prop)->q->Prop}(e:kj r s){f:q->List ar}{k:Nat}{T:TypeId}{B base:Nat}{xs:List q}{v:ar}{w0 wr w1 w2:ag}(D:fy r s f k T B base xs v w0 wr)(L:B<=base)(y:base<=wr.heap.size)(j:am wr w1)(h:q)(w:r w1.heap.size w1 h)(F:s (λb=>b<B\/wr.heap.size<=b) h){g c:Nat}(H:w2.ownsRow base T k (ae (some ⟨g,0,none⟩) (xs.length+1) c) (xs.length+1) (xs.flatMap f++f h))(m:w1.grownBy w2 v.ownBlock)(x:v.ownBlock=some g\/g=w1.heap.size):fy r s f k T B base (xs++ [h]) (ae (some ⟨g,0,none⟩) (xs.length+1) c) w0 w2:=by
 obtain⟨o,J,K⟩:=D;have u:∀b,v.ownBlock=some b->base<=b/\b<wr.heap.size:=λb d=>J.lt b d;have t:∀b,b<w1.heap.size->v.ownBlock≠some b->w2.heap[b]?=w1.heap[b]? :=λb y G=>m.block b y (λd=>G d.symm);have E:=j.size;have z:=m.size;refine⟨⟨(m.os.trans j.os).trans o.os,(m.tape.trans j.tape).trans o.tape,(m.output.trans j.output).trans o.output,by have:=o.size;omega,λb a=>?_⟩,?_,?_⟩
 ·exact(t b (by omega) (λd=>by have:=(u b d).1;omega)).trans ((j.block b (by omega)).trans (o.block b a))
 ·have C:(xs++ [h]).length=xs.length+1:=by simp
  have i:(xs++ [h]).flatMap f=xs.flatMap f++f h:=by simp
  rw[C,i];exact H
 ·intro p l;rcases cY.1 l with l|l
  ·obtain⟨A,I⟩:=K p l;have n:=e.2.1 _ _ _ _ I A;refine⟨e.mono z (e.2.2.1 _ _ w1 w2 p (λb a=>t b ?_ a.1.2) n (e.mono E (e.below j A))),e.1 _ _ p (λb a=>⟨a.1.1,?_⟩) n⟩
   ·have:=a.2;omega
   ·simp only[Value.ownBlock];intro d;injection d with d;rcases x with i|i
    ·exact a.1.2 (by rw[i,d])
    ·have:=a.2;omega
  ·simp only[dx]at l;subst l;have n:=e.2.1 _ _ _ _ F w;refine⟨e.mono z (e.2.2.1 _ _ w1 w2 p (λb a=>t b a.2 (λd=>?_)) n w),e.1 _ _ p (λb a=>⟨?_,?_⟩) n⟩
   ·have:=u b d;have:=a.1;omega
   ·have:=a.1;omega
   ·simp only[Value.ownBlock];intro d;injection d with d;rcases x with i|i
    ·have:=u g i;have:=a.1;omega
    ·have:=a.2;omega
theorem fy.lit{d:Type}{e:Nat->ag->d->Prop}{g:(Nat->Prop)->d->Prop}(a:kj e g){f:d->List ar}{k:Nat}{T:TypeId}{B base:Nat}(xs:List d){w0 w1:ag}{cs:Array ar}(i:cs.toList=xs.flatMap f)(r:∀x,(f x).length=k)(p:xs.length<=maxLen)(m:base<=w1.heap.size)(q:Below base w0 w1)(c:∀y∈xs,e w1.heap.size w1 y/\g (λb=>b<B\/base<=b) y):fy e g f k T B base xs (ae (some ⟨w1.heap.size,0,none⟩) xs.length xs.length) w0 (w1.alloc (.cells cs T)):=by
 have h:am w1 (w1.alloc (.cells cs T)):=aS _ _;have o:(xs.flatMap f).length=xs.length*k:=by
  clear i c p
  induction xs with
  | nil=>simp
  | cons x xs ih=>rw[bM,bt,ih,r,bu,Nat.succ_mul];omega
 have s:cs.size=xs.length*k:=by rw[<-o,<-i];simp
 refine⟨q.trans (h.mono m),⟨by rw[o],ak ⟨w1.heap.size,xs.length,cs,rfl,m,aD w1 _,av _,p,by omega,?_⟩⟩,λy j=>⟨a.mono h.size (a.below h (c y j).1),?_⟩⟩
 ·rw[i,bA (by omega)]
 ·refine a.1 _ _ y (λb n=>⟨n.1,?_⟩) (a.2.1 _ _ _ _ (c y j).2 (c y j).1);simp only[Value.ownBlock];intro l;injection l with l;have:=n.2;omega
theorem fy.lay{m:Type}{p:Nat->ag->m->Prop}{q:(Nat->Prop)->m->Prop}(y:kj p q){f:m->List ar}{k:Nat}{T:TypeId}{B base:Nat}{xs:List m}{v:ar}{w0 wr:ag}(u:∀x,(f x).length=k)(h:fy p q f k T B base xs v w0 wr):∃a c,v=ae a xs.length c/\(xs.length<=c/\c<=maxLen)/\qv wr.heap.size wr k f (p wr.heap.size wr) a xs/\ub (q (λb=>b<B\/base<=b)) (λb=>b<B\/base<=b) a xs:=by
 obtain⟨M,H,w⟩:=h;rcases H.2 with⟨r,J⟩|⟨s,cap,I,r,E,t,C,F,L,D⟩
 ·have G:xs=[]:=bI (by omega);subst G;exact⟨none,0,r,⟨av _,aM _⟩,aj rfl,aj rfl⟩
 ·refine⟨some ⟨s,0,none⟩,cap,r,⟨C,F⟩,ak ⟨s,0,rfl,(aI.1 t).1,λd e o=>⟨λg j n=>?_,(w e (aL o)).1⟩⟩,ak ⟨s,0,rfl,ak E,λe o=>y.1 _ _ e (λb A=>A.1) (w e o).2⟩⟩;have z:∀(l:List m)(d g:Nat)(e:m)(j:ar),l[d]?=some e->(f e)[g]?=some j->(l.flatMap f)[d*k+g]?=some j:=by
   intro l
   induction l with
   | nil=>intro d g e j h;simp at h
   | cons x l ih=>
    intro d g e j h n;rw[bM];cases d with
    | zero=>
     simp at h;subst h;rw[dw (by have:=(aY.1 n).1;omega)];simpa using n
    | succ d=>
     rw[dM (by rw[u,Nat.succ_mul];omega),u,Nat.succ_mul,show d*k+k+g-k=d*k+g by omega];exact ih d g e j (by simpa using h) n
  have i:=z xs d g e j o n;have K:=(aY.1 i).1;rw[<-D]at i;rw[jB]at i;split at i
  ·rw[cP];simp only[World.cell?,t];rw[np]at i;simpa using i
  ·cases i
def JF(i:Option (List An))(f:List An->Option (List An))(w:ag)(e:Ending)(w':ag):Prop:=
 ∃h len c d,e=.returned (.tuple #[ae h len c,.bool d])/\Hid (am w w'/\(i=none->d=false)/\∀b,i=some b->∃g:List (Tm (nE b)),aG (λx k=>aB (nE b) x (nE b) k) g (Db b)=true/\(f (ov (nE b) g)=none->d=false)/\
  ∀a,f (ov (nE b) g)=some a->d=true/\len=4/\a.length=4/\∃j l,w.heap.size<=j.heap.size/\ie (nE a) (Db a) j w' h c l)
theorem EB(g h j k v x s0 s1 t0 t1:Int)(i m y q t2:ap)(pa n z sa K t:au)(pl pc p o B A sl sc M L cl u:Nat)(R:Option (List An))(f:List An->Option (List An))(w:ag)(X:Hid (∀E W,am w E->ie 1 (List.replicate 4 fC) E W (some ⟨E.heap.size,0,none⟩) 4 (List.replicate 4 fC)->ao 152 #[.agg #[ab g,ab h,af i,ae pa pl pc],.agg #[ab s0,ab s1,af q,ae sa sl sc],ae (some ⟨E.heap.size,0,none⟩) 4 4] W (zj 0 R W)))(aE:Hid (∀(b:List An)(l:List (Tm (nE b)))(a:au)(c:Nat)(E W:ag),am w W->R=some b->b.length=4->ie (nE b) (Db b) E W a c l->ao 152 #[.agg #[ab j,ab k,af m,ae n p o],.agg #[ab t0,ab t1,af t2,ae K M L],ae a 4 c] W (zj 0 (f (ov (nE b) l)) W))):ao 115 #[.agg #[ab g,ab h,af i,ae pa pl pc,ab j,ab k,af m,ae n p o,ae t cl u,ab v,ab x,af y,ae z B A],.agg #[ab s0,ab s1,af q,ae sa sl sc],.agg #[ab t0,ab t1,af t2,ae K M L]] w (JF R f w):=by
 go_enter func115,ntmps115;go_wp2_with fail;have Y:Hid (∃s d e F,(s=((w.alloc (.cells #[ab g,ab h,af i,ae pa pl pc,ab j,ab k,af m,ae n p o,ae t cl u,ab v,ab x,af y,ae z B A] 162)).alloc (.cells #[ab s0,ab s1,af q,ae sa sl sc] 31)).alloc (.cells #[ab t0,ab t1,af t2,ae K M L] 31)/\d=w.heap.size/\e=w.heap.size+1/\F=w.heap.size+2)/\am w s/\∀W,am s W->(ah W d 0 (ab g)/\ah W d 1 (ab h)/\ah W d 2 (af i)/\ah W d 3 (ae pa pl pc))/\(ah W d 4 (ab j)/\ah W d 5 (ab k)/\ah W d 6 (af m)/\ah W d 7 (ae n p o))/\(ah W e 0 (ab s0)/\ah W e 1 (ab s1)/\ah W e 2 (af q)/\ah W e 3 (ae sa sl sc))/\(ah W F 0 (ab t0)/\ah W F 1 (ab t1)/\ah W F 2 (af t2)/\ah W F 3 (ae K M L))):=by
  have aV:(w.alloc (.cells #[ab g,ab h,af i,ae pa pl pc,ab j,ab k,af m,ae n p o,ae t cl u,ab v,ab x,af y,ae z B A] 162)).heap.size=w.heap.size+1:=by simp
  have aW:((w.alloc (.cells #[ab g,ab h,af i,ae pa pl pc,ab j,ab k,af m,ae n p o,ae t cl u,ab v,ab x,af y,ae z B A] 162)).alloc (.cells #[ab s0,ab s1,af q,ae sa sl sc] 31)).heap.size=w.heap.size+2:=by simp
  refine⟨_,_,_,_,⟨rfl,rfl,rfl,rfl⟩,((aS _ _).alloc (by simp) _).alloc (by simp;omega) _,λW G=>?_⟩;have r:=(G.block w.heap.size (by simp;omega)).trans (((aS _ _).block w.heap.size (by simp;omega)).trans (((aS _ _).block w.heap.size (by simp)).trans (aD w (.cells #[ab g,ab h,af i,ae pa pl pc,ab j,ab k,af m,ae n p o,ae t cl u,ab v,ab x,af y,ae z B A] 162))));have ar:=aD (w.alloc (.cells #[ab g,ab h,af i,ae pa pl pc,ab j,ab k,af m,ae n p o,ae t cl u,ab v,ab x,af y,ae z B A] 162)) (.cells #[ab s0,ab s1,af q,ae sa sl sc] 31);rw[aV]at ar;have P:=(G.block (w.heap.size+1) (by simp)).trans (((aS _ _).block (w.heap.size+1) (by simp)).trans ar);have av:=aD ((w.alloc (.cells #[ab g,ab h,af i,ae pa pl pc,ab j,ab k,af m,ae n p o,ae t cl u,ab v,ab x,af y,ae z B A] 162)).alloc (.cells #[ab s0,ab s1,af q,ae sa sl sc] 31)) (.cells #[ab t0,ab t1,af t2,ae K M L] 31);rw[aW]at av;have Q:=(G.block (w.heap.size+2) (by simp)).trans av;exact⟨⟨ai r 0,ai r 1,ai r 2,ai r 3⟩,⟨ai r 4,ai r 5,ai r 6,ai r 7⟩,⟨ai P 0,ai P 1,ai P 2,ai P 3⟩,ai Q 0,ai Q 1,ai Q 2,ai Q 3⟩
 obtain⟨s,d,e,F,⟨al,ad,aj,ak⟩,C,D⟩:=Y.out;rw[<-al,<-ak,<-aj,<-ad];replace C:=aq C;replace D:=aq D;clear al ad aj ak Y;obtain⟨⟨ax,ay,az,aB⟩,_,⟨y0,y1,y2,aC⟩,_⟩:=D.out s (aA _ _);have I:Hid (am s s.drew):=(aA _ _).drew;have O:Hid (∀W,am s W->(ah W d 0 (ab g)/\ah W d 1 (ab h)/\ah W d 2 (af i)/\ah W d 3 (ae pa pl pc))/\(ah W e 0 (ab s0)/\ah W e 1 (ab s1)/\ah W e 2 (af q)/\ah W e 3 (ae sa sl sc))):=λW G=>⟨(D W G).1,(D W G).2.2.1⟩
 go_region_held3 (λW=>(ah W d 0 (ab g)/\ah W d 1 (ab h)/\ah W d 2 (af i)/\ah W d 3 (ae pa pl pc))/\(ah W e 0 (ab s0)/\ah W e 1 (ab s1)/\ah W e 2 (af q)/\ah W e 3 (ae sa sl sc)))
  (first|(go_keep;done)|exact O _ I|exact O _ S|exact O _ N) ((first
   | (go_at_call 153;refine(Cb _).mono ?_;rintro Z ba ⟨rfl,U⟩;have N:=aq (I.trans (U.1.mono I.size)))
   | (go_at_call 152;refine(X _ _ (C.trans (I.mono C.size)) U).mono ?_;rintro Z aw ⟨aI,a2,aL,a5,rfl,J⟩;have S:=aq (N.trans (J.1.mono N.size)))))
 have H:=aq (C.trans (S.mono C.size));clear ax ay az aB y0 y1 y2 aC O U N I X;cases R with
 | none=>
  obtain⟨rfl,rfl⟩:a2=0/\a5=false:=J.out.2.1 (by simp);clear J;go_wp2_with fail
  go_ret2
  exact⟨none,0,0,false,rfl,H,λ_=>rfl,λb aO=>by cases aO⟩
 | some b=>
  obtain⟨aU,aR,aa,a7,an,aX,V⟩:=J.out.2.2 b trivial rfl;subst aU aR;have aH:=aq (aE b an aI aL a7 aw H rfl aa V);have aG:=aq V.2.2.2.2.1;obtain⟨_,⟨ax,ay,az,aB⟩,_,y0,y1,y2,aC⟩:=D aw S;clear V J aa aX;go_wp2_with fail;refine aH.mono ?_;rintro Z bb ⟨aJ,a3,aM,a6,rfl,T⟩;go_wp2_with fail
  go_ret2
  refine⟨aJ,a3,aM,a6,rfl,H.trans (T.1.mono H.size),(λaN=>by cases aN),λa9 aP=>?_⟩;cases aP;refine⟨an,aG,λaT=>(T.2.1 (by simp[aT])).2,λaK aQ=>?_⟩;obtain⟨aY,aZ,a0,a8,a4,a1,kc⟩:=T.2.2 aK trivial aQ;exact⟨aY,aZ,a0,a8,a4,aF H.size a1,kc⟩
theorem MX{n:Nat}{p l:List (Tm n)}{w w':ag}{a:au}{c:Nat}(i:ie n p w w' a c l):fU w'.heap.size w' n l a:=by
 obtain⟨_,_,_,_,_,k⟩:=i;rcases k with d|⟨b,o,d,_,j,e⟩
 ·exact aj d
 ·exact ak ⟨b,o,d,j,λg h f=>⟨(e g h f).1,(e g h f).2.1⟩⟩
theorem rZ{y:An}(a:Dx y):aJ y:=aU.2 (bJ.1 a.1).1
theorem DA:∀y∈ov 1 (List.replicate 4 fC),Dx y:=by
 intro y a;simp only[ov,cm,List.mem_replicate]at a;obtain⟨x,⟨_,rfl⟩,rfl⟩:=a;exact⟨zx,aj rfl⟩
theorem fw{n:Nat}{x:Tm n}(a:bG n x=0):(aC n x).length<=2097152:=aF (oB a) (by omega)
theorem IC(n m k:Nat)(c:Cl (n+1))(s:Tm (m+1))(t:Tm (k+1))(B:Nat)(w:ag)(C:iz (n+1) B w c)(K:In B w (m+1) s)(L:In B w (k+1) t)(a:B<=w.heap.size)(u:bG (n+1) c.1.1=0)(v:bG (n+1) c.1.2.1=0)(p:bG (m+1) s=0)(x:ky (m+1) s=true)(y:bG (k+1) t=0)(H:ky (k+1) t=true):ao 115 #[.agg (fq (n+1) c).toArray,dB (m+1) s,dB (k+1) t] w (JF (iB (n+1) c.1.1 (m+1) s (ov 1 (List.replicate 4 fC))) (iB (n+1) c.1.2.1 (k+1) t) w):=by
 refine EB c.1.1.1.1 c.1.1.1.2.1 c.1.2.1.1.1 c.1.2.1.1.2.1 c.1.2.2.1.1 c.1.2.2.1.2.1 s.1.1 s.1.2.1 t.1.1 t.1.2.1 c.1.1.1.2.2 c.1.2.1.1.2.2 c.1.2.2.1.2.2 s.1.2.2 t.1.2.2 c.1.1.2.1.1 c.1.2.1.2.1.1 c.1.2.2.2.1.1 s.2.1.1 t.2.1.1 c.2.1.1
  c.1.1.2.2.length c.1.1.2.1.2 c.1.2.1.2.2.length c.1.2.1.2.1.2 c.1.2.2.2.2.length c.1.2.2.2.1.2 s.2.2.length s.2.1.2 t.2.2.length t.2.1.2 c.2.2.length c.2.1.2 _ _ w ?_ ?_
 ·intro r d z i;have h:=z.trans (i.1.mono z.size)
  have e:=yf (n+1) (m+1) 1 c.1.1 s (List.replicate 4 fC) (some ⟨r.heap.size,0,none⟩) 4 d.heap.size d ((C.1.1.below (h.mono a)).mono (aF a h.size)) ((K.below (h.mono a)).mono (aF a h.size)) (MX i) (av _) (fw u) (fw p) (λj f=>by
   rw[(List.mem_replicate.1 f).2]
   exact fw zx) (by simp)
  have o:ue (bG (n+1) c.1.1) (bG (m+1) s) (ky (m+1) s) (gE 1 (List.replicate 4 fC))=0:=by
   rw[u,p,x,JW];rfl
  rw[o]at e;exact e
 ·intro b l E F r d g J G i;have q:=lF Dx oL (n+1) c.1.1 (m+1) s ⟨p,ak (by rw[fM];exact x)⟩ (ov 1 (List.replicate 4 fC)) b ⟨by simp[ov],DA⟩ J;obtain⟨I,D,M,N⟩:=FN i (λj f=>rZ (q.2 j f)) G;have A:=yR q.2 D q.1 M;have e:=yf (n+1) (k+1) (nE b) c.1.2.1 t l E F d.heap.size d ((C.1.2.1.below (g.mono a)).mono (aF a g.size)) ((L.below (g.mono a)).mono (aF a g.size)) I (av _) (fw v) (fw y) (λj f=>fw ((iE A).2 j f).1) (by omega);have o:ue (bG (n+1) c.1.2.1) (bG (k+1) t) (ky (k+1) t) (gE (nE b) l)=0:=by
   rw[v,y,H,A];rfl
  rw[o,D]at e;exact e
def xK(N:Nat)(o:Option (Tm (N+1)))(w:ag)(e:Ending)(w':ag):Prop:=
 ∃a:Tm (N+1),e=.returned (.tuple #[.agg #[ab a.1.1,ab a.1.2.1,af a.1.2.2,ae a.2.1.1 a.2.2.length a.2.1.2],.bool o.isSome])/\Hid (am w w'/\In w'.heap.size w' (N+1) a/\cv (λb=>w.heap.size<=b) (N+1) a/\aB (N+1) a (N+1) (o.getD (xg N))=true)
theorem Lz{N:Nat}{E:Int}{o:Option (Tm N)}:(Gg E (oz E o)==0)=(oz E o).isSome:=by
 unfold Gg;by_cases a:E=0
 ·rw[if_pos a];cases (oz E o).isSome<;>simp
 ·rw[if_neg a];have:oz E o=none:=by unfold oz;rw[if_neg a]
  rw[this];simp[a]
theorem Dc{N:Nat}(y:Tm (N+1)):dB (N+1) y=.agg #[ab y.1.1,ab y.1.2.1,af y.1.2.2,ae y.2.1.1 y.2.2.length y.2.1.2]:=rfl
theorem Mt{w w':ag}{t:TypeId}{v0 v1 v2 v3:ar}(b:Below (w.alloc (.cells #[v0,v1,v2,v3] t)).drew.heap.size (w.alloc (.cells #[v0,v1,v2,v3] t)).drew w'):ah w' w.heap.size 0 v0/\ah w' w.heap.size 1 v1/\ah w' w.heap.size 2 v2/\ah w' w.heap.size 3 v3/\w'.frozen? ⟨w.heap.size,0,none⟩=false/\w'.frozen? ⟨w.heap.size,1,none⟩=false/\w'.frozen? ⟨w.heap.size,2,none⟩=false/\w'.frozen? ⟨w.heap.size,3,none⟩=false:=by
 have a:=(b.block w.heap.size (by simp[World.drew])).trans (aD w (.cells #[v0,v1,v2,v3] t));exact⟨ai a 0,ai a 1,ai a 2,ai a 3,by simp[World.frozen?,a],by simp[World.frozen?,a],by simp[World.frozen?,a],by simp[World.frozen?,a]⟩
theorem O3{w w':ag}{t:TypeId}{v0 v1 v2 v3:ar}(a:Below (w.alloc (.cells #[v0,v1,v2,v3] t)).drew.heap.size (w.alloc (.cells #[v0,v1,v2,v3] t)).drew w'):w'.heap[w.heap.size]?=some (.cells #[v0,v1,v2,v3] t):=
 (a.block w.heap.size (by simp[World.drew])).trans (aD w (.cells #[v0,v1,v2,v3] t))
theorem s9{w:ag}{g:Nat}{t:TypeId}{b c d e:ar}(a:w.heap[g]?=some (.cells #[b,c,d,e] t))(v0 v1 v2 v3:ar):(cZ w g 0 v0 v1 v2 v3).heap[g]?=some (.cells #[v0,v1,v2,v3] t):=by
 simp[cZ,World.setCell,bQ,a]
def xJ(N:Nat)(y:Tm (N+1))(w0:ag)(q p:Nat)(w2 b:ag):Prop:=
 am w0 b/\b.heap[p]?=some (.cells #[ab y.1.1,ab y.1.2.1,af y.1.2.2,ae y.2.1.1 y.2.2.length y.2.1.2] 31)/\p≠q/\(∀a,a<w2.heap.size->a≠p->b.heap[a]?=w2.heap[a]?)/\cv (λa=>w0.heap.size<=a/\a<w2.heap.size/\a≠p) (N+1) y
theorem xJ.cells{N:Nat}{y:Tm (N+1)}{w0 w2 a:ag}{q p:Nat}(c:xJ N y w0 q p w2 a)(d:q<w0.heap.size){t:TypeId}{v0 v1 v2 v3:ar}(e:w0.heap[q]?=some (.cells #[v0,v1,v2,v3] t)):(ah a p 0 (ab y.1.1)/\ah a p 1 (ab y.1.2.1)/\ah a p 2 (af y.1.2.2)/\ah a p 3 (ae y.2.1.1 y.2.2.length y.2.1.2))/\ (ah a q 0 v0/\ah a q 1 v1/\ah a q 2 v2/\ah a q 3 v3)/\a.frozen? ⟨q,0,none⟩=false/\a.frozen? ⟨q,1,none⟩=false/\a.frozen? ⟨q,2,none⟩=false/\a.frozen? ⟨q,3,none⟩=false/\p≠q:=by
 have b:=(c.1.block q d).trans e;exact⟨⟨ai c.2.1 0,ai c.2.1 1,ai c.2.1 2,ai c.2.1 3⟩,⟨ai b 0,ai b 1,ai b 2,ai b 3⟩,by simp[World.frozen?,b],by simp[World.frozen?,b],by simp[World.frozen?,b],by simp[World.frozen?,b],c.2.2.1⟩
theorem xJ.close{N:Nat}{y:Tm (N+1)}{E:Int}{o:Option (Tm (N+1))}{w w0 w2 d:ag}{q p:Nat}(f:xJ N y w0 q p w2 d)(b:am w w0)(k:w.heap.size<=q)(t:q<w0.heap.size)(j:In w2.heap.size w2 (N+1) y)(l:aB (N+1) y (N+1) ((oz E o).getD (xg N))=true){v0 v1 v2 v3:ar}(m:w2.heap.size<=d.heap.size):xK N (oz E o) w (.returned (.tuple #[.agg #[ab y.1.1,ab y.1.2.1,af y.1.2.2,ae y.2.1.1 y.2.2.length y.2.1.2],.bool (Gg E (oz E o)==0)])) (cZ d q 0 v0 v1 v2 v3):=by
 obtain⟨g,n,r,h,e⟩:=f;have i:=b.trans (g.mono b.size);have s:=b.size;refine⟨y,by rw[Lz],dn i k _ _ _ _,?_,e.mono λa c=>by omega,l⟩;rw[bD];exact(In.off (P:=λa=>w0.heap.size<=a/\a<w2.heap.size/\a≠p) (λa c=>(bk (by omega) _ _ _ _).trans (h a c.2.1 c.2.2)) e j).mono m
theorem zN(N:Nat)(E:Int)(o:Option (Tm (N+1)))(r s:Int)(t:ap)(xa:au)(u xc:Nat)(a:au)(c:Nat)(self:Int)(f:Nat)(w:ag)(ad:f<w.heap.size)(d0:ah w f 0 (ae a 4 c))(d1:ah w f 1 (ab self))(J:Hid (∀W,am w W->ao 155 #[.agg #[ab r,ab s,af t,ae xa u xc],ae a 4 c,ab self] W (AZ N E o W))):ao 117 #[aH f,.agg #[ab r,ab s,af t,ae xa u xc]] w (xK N (oz E o) w):=by
 have S:Hid (∃d g y,(d=(w.alloc (.cells #[ab r,ab s,af t,ae xa u xc] 31)).alloc (.cells #[ab 0,ab 0,af ⟨#[]⟩,ae none 0 0] 31)/\g=w.heap.size/\y=w.heap.size+1)/\(g<d.heap.size/\f<d.heap.size/\y<d.heap.size/\w.heap.size<=y)/\am w d/\d.heap[y]?=some (.cells #[ab 0,ab 0,af ⟨#[]⟩,ae none 0 0] 31)/\∀W,am d W->(ah W g 0 (ab r)/\ah W g 1 (ab s)/\ah W g 2 (af t)/\ah W g 3 (ae xa u xc))/\ah W f 0 (ae a 4 c)/\ah W f 1 (ab self)):=by
  have aa:am w ((w.alloc (.cells #[ab r,ab s,af t,ae xa u xc] 31)).alloc (.cells #[ab 0,ab 0,af ⟨#[]⟩,ae none 0 0] 31)):=(aS _ _).alloc (by simp) _;have an:=aD (w.alloc (.cells #[ab r,ab s,af t,ae xa u xc] 31)) (.cells #[ab 0,ab 0,af ⟨#[]⟩,ae none 0 0] 31);rw[iV]at an;refine⟨_,_,_,⟨rfl,rfl,rfl⟩,⟨by simp;omega,by simp;omega,by simp,by omega⟩,aa,an,λW Y=>?_⟩;have K:=(Y.block w.heap.size (by simp;omega)).trans (((aS _ _).block w.heap.size (by simp)).trans (aD w (.cells #[ab r,ab s,af t,ae xa u xc] 31)));have Z:am w W:=aa.trans (Y.mono (by simp;omega));exact⟨⟨ai K 0,ai K 1,ai K 2,ai K 3⟩,(Z.cell (p:=⟨f,0,none⟩) ad).trans d0,(Z.cell (p:=⟨f,1,none⟩) ad).trans d1⟩
 go_enter func117,ntmps117;go_wp2_with fail;obtain⟨d,g,y,⟨al,aj,ak⟩,i,n,I,h⟩:=S.out;rw[<-al,<-ak,<-aj];replace i:=aq i;replace n:=aq n;replace I:=aq I;replace h:=aq h;clear al aj ak S d0 d1;obtain⟨⟨T,U,V,X⟩,d0,d1⟩:=h.out d (aA _ _);have x:Hid (am d d.drew):=(aA _ _).drew;have z:Hid (∀o:Obj,am d (d.alloc o).drew):=λo=>(aS _ o).drew;have M:Hid (∀o:Obj,am w (d.alloc o).drew):=λo=>n.trans ((z o).mono n.size);have O:=aq (n.trans (x.mono n.size))
 go_region_held3 (λW=>(ah W g 0 (ab r)/\ah W g 1 (ab s)/\ah W g 2 (af t)/\ah W g 3 (ae xa u xc))/\ah W f 0 (ae a 4 c)/\ah W f 1 (ab self))
  (first|(go_keep;done)|exact h _ x|exact h _ (z _)|exact h _ (j.alloc j.size _)|exact h _ ((((j.setCell (av _) _).setCell (av _) _).setCell (av _) _).setCell (av _) _)|exact h _ j) ((first
   | (go_at_call 155;refine(J _ O).mono ?_;rintro aC q ⟨b,rfl,e⟩;rw[Dc];have j:=aq (x.trans (e.1.mono x.size)))
   | (go_at_call 155;refine(J _ (M _)).mono ?_;rintro aC q ⟨b,rfl,e⟩;rw[Dc];have j:=aq ((z _).trans (e.1.mono (z _).size));have ar:=aq (O3 e.1);obtain⟨D,F,G,H,f0,f1,f2,f3⟩:=Mt e.1)))
 ·have B:Hid (∃m p,(m=q.alloc (.cells #[ab b.1.1,ab b.1.2.1,af b.1.2.2,ae b.2.1.1 b.2.2.length b.2.1.2] 31)/\p=q.heap.size)/\xJ N b d y p q m):=by
    refine⟨_,_,⟨rfl,rfl⟩,j.alloc j.size _,aD _ _,?_,λL A _=>(aS _ _).block L A,?_⟩
    ·have:=i.2.2.1;have:=j.size;omega
    ·exact(In.offB e.2.2.1 e.2.1).mono λL A=>by have:=x.size;omega
  obtain⟨m,p,⟨l,C⟩,k⟩:=B.out;rw[<-l,<-C];replace k:=aq k;have P:=aq e.2.1;have Q:=aq e.2.2.2;have R:Hid (q.heap.size<=m.heap.size):=by
   rw[l];simp[Hid]
  clear l C B e J h z M O x T U V X d0 d1;obtain⟨⟨aw,ax,az,aB⟩,⟨D,F,G,H⟩,f0,f1,f2,f3,aE⟩:=k.out.cells i.2.2.1 I;go_wp2_with fail;exact ay (v:=.tuple #[.agg #[ab b.1.1,ab b.1.2.1,af b.1.2.2,ae b.2.1.1 b.2.2.length b.2.1.2],.bool (Gg E (oz E o)==0)]) (by simp[results,results117,go_sem,D,F,G,H]) rfl (k.close n i.2.2.2 i.2.2.1 P Q R)
 ·have B:Hid (∃m p,(m=cZ q d.heap.size 0 (ab b.1.1) (ab b.1.2.1) (af b.1.2.2) (ae b.2.1.1 b.2.2.length b.2.1.2)/\p=d.heap.size)/\xJ N b d y p q m):=by
    refine⟨_,_,⟨rfl,rfl⟩,((((j.setCell (av _) _).setCell (av _) _).setCell (av _) _).setCell (av _) _),?_,?_,λL _ A=>bk A _ _ _ _,?_⟩
    ·exact s9 ar _ _ _ _
    ·have:=i.2.2.1;omega
    ·exact(In.offB e.2.2.1 e.2.1).mono λL A=>by
       have:=A.1;simp[World.drew]at this;omega
  obtain⟨m,p,⟨l,C⟩,k⟩:=B.out;replace k:=aq k;have P:=aq e.2.1;have Q:=aq e.2.2.2;have R:Hid (q.heap.size<=m.heap.size):=by
   rw[l,bD];exact av _
  unfold cZ at l;simp only[cP]at l;rw[<-l,<-C];clear l C B e J h z M O x T U V X d0 d1 D F G H f0 f1 f2 f3;obtain⟨⟨aw,ax,az,aB⟩,⟨D,F,G,H⟩,f0,f1,f2,f3,aE⟩:=k.out.cells i.2.2.1 I;go_wp2_with fail;exact ay (v:=.tuple #[.agg #[ab b.1.1,ab b.1.2.1,af b.1.2.2,ae b.2.1.1 b.2.2.length b.2.1.2],.bool (Gg E (oz E o)==0)]) (by simp[results,results117,go_sem,D,F,G,H]) rfl (k.close n i.2.2.2 i.2.2.1 P Q R)
def FY{N:Nat}:Option (Tm (N+1))->Bool
 | some a=>a.1.1==3
 | none=>false
theorem By(N:Nat)(o:Option (Tm (N+1)))(a d:Int)(f:ap)(xa:au)(g xc:Nat)(q:Nat)(w:ag)(p:Hid (∀W,am w W->ao 117 #[aH q,.agg #[ab a,ab d,af f,ae xa g xc]] W (xK N o W))):ao 201 #[aH q,.agg #[ab a,ab d,af f,ae xa g xc]] w λe w'=>∃r,e=.returned (.tuple #[ab r,.bool (FY o)])/\Hid (am w w'/\∀b,o=some b->r=b.1.2.1):=by
 have h:Hid (∀o:Obj,am w (w.alloc o)):=λo=>aS _ o;have s:(w.alloc (.cells #[ab a,ab d,af f,ae xa g xc] 31)).cell? ⟨w.heap.size,0,none⟩=some (ab a):=ai (aD w _) 0;go_enter func201,ntmps201;go_wp2_with fail;refine(p _ (h _)).mono ?_;rintro e v ⟨x,rfl,i⟩;have l:=aq ((h (.cells #[ab a,ab d,af f,ae xa g xc] 31)).trans (i.1.mono (h _).size));have n:=aq i.2.2.2;have m:Hid (∀k:Obj,am w (v.alloc k).drew):=λk=>(l.alloc l.size k).drew;clear i p s;cases o with
 | none=>
  simp only[nz];go_wp2_with fail;go_region
  all_goals
   go_wp2_with fail
   go_ret2
   exact⟨_,rfl,m _,λb j=>by cases j⟩
 | some b=>
  simp only[nA];have c:=n.out;simp only[Option.getD_some,aB,aK,co]at c;have t:Hid (FY (some b)=(x.1.1==3)):=by
   show _=_;rw[c.1.1.1];rfl
  have u:=aq c.1.1.2;clear c n;go_wp2_with fail;go_region
  all_goals
   go_wp2_with fail
   go_ret2
   rw[t.out];exact⟨_,rfl,m _,λy j=>by cases j;exact u⟩
theorem Nm:(Tryz.prog.info? 3).map (λi=>(i.zero,i.size,i.bytes))=some (some (ab 0),1,8):=by kernel_rfl
def PV(base i:Nat)(f:au)(L g:Nat)(xs:List ar)(t:Bool)(h:Int->Prop)(w:ag)(e:Ending)(w':ag):Prop:=
 e=.returned (.bool t)/\(t=false->am w w')/\
  (t=true->∃d a c b,h d/\b.ownsRow base 3 1 (ae (some ⟨a,0,none⟩) (L+1) c) (L+1) (xs++ [ab d])/\bB (λj=>(Value.slice f L g).ownBlock=some j) w b/\((Value.slice f L g).ownBlock=some a\/w.heap.size<=a)/\w'=b.setCell ⟨i,5,none⟩ (ae (some ⟨a,0,none⟩) (L+1) c))
theorem Hw(k u v:Int)(x:ap)(xa:au)(y xc:Nat)(y0 y1:Int)(y2:ap)(ya:au)(yl yc:Nat)(nm:ap)(O:Int)(base a:Nat)(b:au)(L c:Nat)(xs:List ar)(w:ag)(t:Bool)(z:Int->Prop)(ai:L<=10000)(G:a<w.heap.size)(al:base<=w.heap.size)(A:Hid (ah w a 5 (ae b L c)/\w.frozen? ⟨a,5,none⟩=false))(V:Hid (w.ownsRow base 3 1 (ae b L c) L xs))(B:Hid ((Value.slice b L c).ownBlock≠some a))(C:Hid (∀W,am w W->ao 201 #[aH a,.agg #[ab u,ab v,af x,ae xa y xc]] W λe w'=>∃f,e=.returned (.tuple #[ab f,.bool t])/\Hid (am W w'/\z f))):ao 188 #[aH a,.agg #[ab k,ab u,ab v,af x,ae xa y xc,ab y0,ab y1,af y2,ae ya yl yc,af nm,ab O]] w (PV base a b L c xs t z w):=by
 obtain⟨j,H,J,K,M⟩:=bU Nm;have n:Hid (Tryz.prog.info? 3=some j/\j.zero=some (ab 0)/\j.size=1/\j.bytes=8):=⟨H,J,K,M⟩;clear H J K M;have D:Hid (∃r,r=w.alloc (.cells #[ab k,ab u,ab v,af x,ae xa y xc,ab y0,ab y1,af y2,ae ya yl yc,af nm,ab O] 248)/\am w r):=⟨_,rfl,aS _ _⟩;go_enter func188,ntmps188;go_wp2_with fail;obtain⟨r,N,F⟩:=D.out;rw[<-N];have m:=aq F;clear N F D;refine(C _ m).mono ?_;rintro e l ⟨f,rfl,q⟩;have d:=aq (m.trans (q.1.mono m.size));have Q:=aq q.2;clear q C m;cases t
 ·go_wp2_with fail
  go_ret
  exact⟨rfl,λ_=>d,λh=>(by cases h)⟩
 ·have X:ah l a 5 (ae b L c):=(d.cell (p:=⟨a,5,none⟩) G).trans A.1;have T:Hid (l.ownsRow base 3 1 (ae b L c) L xs):=bw V (aR d λ_=>False) λ_ _ h=>h;have g:=aq d.size;have R:Hid (l.frozen? ⟨a,5,none⟩=false):=by
   have i:=A.2;unfold World.frozen? at i ⊢;rw[d.out.block a G];exact i
  go_wp2_with (first
   | (at_builtin;refine wpList_append_lies _ rfl _ _ 25 rfl base 3 j _ 1 8 underlying25 n.1 n.2.1 n.2.2.1 n.2.2.2 rfl (by decide) (ae b L c) L xs rfl (T.alloc _) ⟨l.heap.size,0,none⟩ 1 1 [ab f] rfl rfl (World.news_of_block (cs:= #[ab f]) (t:=3) (fr:=(0,0)) (aD l _)) (by simp[Value.oneCell']) (by decide) (by unfold maxLen;omega) (by omega) (by have:=g.out;simp;omega) _ rfl ?_;intro Z Y s I o E aa;have U:=aq I;have S:=aq o;have P:=aq E;have ad:ah s a 5 (ae b L c):=(o.cell_far ⟨a,5,none⟩ (by show a<_;have:=g.out;simp;omega) (λe=>B e.symm)).trans ((aS _ _ |>.cell (p:=⟨a,5,none⟩) (by show a<_;have:=g.out;omega)).trans X);have f5:s.frozen? ⟨a,5,none⟩=false:=(o.frozen_far ⟨a,5,none⟩ (by show a<_;have:=g.out;simp;omega) (λe=>B e.symm)).trans (by have i:=R.out;unfold World.frozen? at i ⊢;rw[(aS _ (.cells #[ab f] 3)).block a (by have:=g.out;omega)];exact i);clear I o E aa))
  go_ret
  refine⟨rfl,λh=>(by cases h),λ_=>⟨f,Z,Y,s,Q.out,U.out,?_,?_,rfl⟩⟩
  ·exact bB.trans (aR (d.alloc d.size _) _) (eH S) λ_ _ e=>e
  ·rcases P with e|e
   ·exact aj e
   ·have:=g.out;simp at e;exact ak (by omega)
section
variable {P:Program} {ops:Array Oper} {Q:Exit->Act->ag->Prop} {md:Region.Mode} {S:ag->Prop} {X:Nat}
def ke(P:Program)(md:Region.Mode)(ops:Array Oper)(Q:Exit->Act->ag->Prop)(S:ag->Prop)(X:Nat):Nat->Array Bool->Act->ag->Prop
 | 0,listed,a,w=>Region.ready md ops listed=[]/\Q .normal a w
 | fuel+1,listed,a,w=>
  (Region.ready md ops listed=[]->Q .normal a w)/\
  ∀i∈Region.ready md ops listed,wpOp P ops Q i (λb w'=>(i≠X->S w')/\ke P md ops Q S X fuel (listed.setIfInBounds i true) b w') a w
theorem xe:∀(fuel:Nat)(b:Array Bool)(a:Act)(w:ag),ke P md ops Q S X fuel b a w->wpAny P md ops Q fuel b a w
 | 0,_,_,_,h=>h
 | fuel+1,_,_,_,h=>⟨h.1,λi e=>wpOp_mono (λc w' d=>xe fuel _ c w' d.2) (h.2 i e)⟩
theorem AR{i:Nat}{m:Oper}{v:ar}(z:ops[i]?=some m)(G:∀(j:Nat)(o:Oper) cs b,ops[j]?=some o->o.op≠.select cs b)(L:∀c a w,Q (.panic c) (a.put m.dst v) w->Q (.panic c) a w)(M:∀d,ops[X]?=some d->∃e∈d.after,Region.binds md e=true/\e.on=i):∀(p:Nat)(f:Array Bool)(a:Act)(w:ag),(∀j d,ops[j]?=some d->j≠i->f.getD j true=false->(∀e∈d.after,Region.binds md e=true->e.on≠i)->m.apart ops d=true)-> i∈Region.ready md ops f->YieldsIf P ops S m v a->S w-> ke P md ops Q S X p (f.setIfInBounds i true) (a.put m.dst v) w->ke P md ops Q S X (p+1) f a w:=by
 intro p
 induction p with
 | zero=>
  intro f a w _ l u q n;refine⟨λx=>(by rw[x]at l;cases l),λj s=>?_⟩;by_cases g:j=i
  ·subst g;exact u.wpOp z q ⟨λ_=>q,n⟩
  ·have:=ready_mono s g;rw[n.1]at this;cases this
 | succ p ih=>
  intro f a w B l u q n;refine⟨λx=>(by rw[x]at l;cases l),λj s=>?_⟩;by_cases g:j=i
  ·subst g;exact u.wpOp z q ⟨λ_=>q,n⟩
  ·have h:=n.2 j (ready_mono s g);obtain⟨D,d,t,N⟩:=mem_ready.1 s;have F:∀e∈d.after,Region.binds md e=true->e.on≠i:=λe T O V=>by
    have h:=N e T O;have A:=(mem_ready.1 l).1;rw[V]at h;rcases Nat.lt_or_ge i f.size with y|y
    ·simp[y]at A h;rw[A]at h;cases h
    ·simp[Array.getElem?_eq_none y]at h
   have E:j≠X:=λe=>by
    obtain⟨J,U,R,ab⟩:=M d (by rw[<-e];exact t);exact F J U R ab
   have K:=wpOp_putIf t (B j d t g D F) (λcs b=>G i m cs b z) (λcs b=>G j d cs b t) L u h
   have W:∀k ok,ops[k]?=some ok->k≠i->(f.setIfInBounds j true).getD k true=false->
     (∀e∈ok.after,Region.binds md e=true->e.on≠i)->m.apart ops ok=true:=λk ok Y Z H aa=>by
    refine B k ok Y Z ?_ aa;by_cases C:j=k
    ·subst C;exact D
    ·rw[getD_set_ne true C]at H;exact H
   refine wpOp_mono (λI ad r=>⟨λ_=>r.2.1 E,ih (f.setIfInBounds j true) I ad W (ready_mono l (Ne.symm g)) r.1 (r.2.1 E) ?_⟩) K;rw[Array.setIfInBounds_comm _ _ g];exact r.2.2
def AP(md:Region.Mode)(ops:Array Oper)(X i:Nat):Bool:=((ops[X]?).map λo=>o.after.any λe=>Region.binds md e && e.on==i).getD false
theorem Fk{i:Nat}(a:AP md ops X i=true):∀b,ops[X]?=some b->∃e∈b.after,Region.binds md e=true/\e.on=i:=λb c=>by
 unfold AP at a;rw[c]at a;simp only[nB,Option.getD_some,Array.any_eq_true]at a;obtain⟨k,d,a⟩:=a;simp only[aK,co]at a;exact⟨_,Array.getElem_mem d,a.1,a.2⟩
theorem bf{i:Nat}{d:Oper}{v:ar}{e:Nat}{b:Array Bool}{a:Act}{w:ag}(f:ops[i]?=some d)(n:Region.noSelect ops=true)(k:Region.free md ops b i=true)(m:(Region.ready md ops b).contains i=true)(o:AP md ops X i=true)(h:∀c a w,Q (.panic c) (a.put d.dst v) w->Q (.panic c) a w)(l:d.guard=none)(p:∀w,S w->(execOp a.eval d).run P w=.ok (.value v) w)(j:S w)(g:ke P md ops Q S X e (b.setIfInBounds i true) (a.put d.dst v) w):ke P md ops Q S X (e+1) b a w:=
 AR f (Region.noSelect_spec n) h (Fk o) e b a w (Region.free_spec f k) (by simpa using m) (aj ⟨by simp[Region.wanted,l],p⟩) j g
theorem dl{i:Nat}{o:Oper}{d:Nat}{c:Array Bool}{a:Act}{w:ag}(h:Region.ready md ops c=[i])(n:ops[i]?=some o)(l:o.guard=none)(j:∀K:Act->ag->Prop,Hid (∀b w',(i≠X->S w')->(S w'->ke P md ops Q S X d (c.setIfInBounds i true) b w')->K b w')->o.wp P a w K Q)(m:i≠X):ke P md ops Q S X (d+1) c a w:=by
 refine⟨λe=>(by rw[h]at e;cases e),λq g=>?_⟩;rw[h]at g;obtain rfl:q=i:=by simpa using g
 unfold wpOp;simp only[n];have p:Region.wanted o (yielded ops a.tmps)=true:=by simp[Region.wanted,l]
 simp only[p,de];exact aj (j _ λb w' f k=>⟨f,k (f m)⟩)
theorem jT{o:Oper}{c:Nat}{d:Array Bool}{a:Act}{w:ag}(i:Region.ready md ops d=[X])(m:ops[X]?=some o)(l:o.guard=none)(g:Region.ready md ops (d.setIfInBounds X true)=[])(j:∀K:Act->ag->Prop,Hid (∀b w',Q .normal b w'->K b w')->o.wp P a w K Q):ke P md ops Q S X (c+1) d a w:=by
 refine⟨λe=>(by rw[i]at e;cases e),λp h=>?_⟩;rw[i]at h;obtain rfl:p=X:=by simpa using h
 unfold wpOp;simp only[m];have n:Region.wanted o (yielded ops a.tmps)=true:=by simp[Region.wanted,l]
 simp only[n,de];refine aj (j _ λb w' f=>⟨λk=>absurd rfl k,?_⟩);cases c with
 | zero=>exact⟨g,f⟩
 | succ c=>exact⟨λ_=>f,by rw[g];simp⟩
theorem jU(S:ag->Prop)(X:Nat){id:Nat}{a:Act}{w:ag}(c:P.follows .mixedOrders=true)(b:ke P .any ops Q S X ops.size (Array.replicate ops.size false) a w.drew):(Code.region id ops true).wp P Q a w:=
 wp_region_any c (xe _ _ _ _ b)
end
theorem KE:(Tryz.prog.info? 177).map (λi=>(i.zero,i.size,i.bytes))=some (some (.agg #[ab 0,ab 0,ab 0,af ⟨#[]⟩,ae none 0 0]),5,64):=by kernel_rfl
def Ou{N:Nat}(b:Int)(a:Tm (N+1)):List ar:=[ab b,ab a.1.1,ab a.1.2.1,af a.1.2.2,ae a.2.1.1 a.2.2.length a.2.1.2]
def PY(N base k:Nat)(h:au)(L i:Nat)(xs:List ar)(t:Bool)(j:Int->Prop)(o:Option (Tm (N+1)))(w:ag)(e:Ending)(w':ag):Prop:=
 e=.returned (.bool (t && o.isSome))/\((t && o.isSome)=false->am w w')/\
  ((t && o.isSome)=true->∃(g:Int)(f:Tm (N+1))(a c:Nat)(b:ag),j g/\aB (N+1) f (N+1) (o.getD (xg N))=true/\In b.heap.size b (N+1) f/\cv (λd=>w.heap.size<=d/\d≠a) (N+1) f/\b.ownsRow base 177 5 (ae (some ⟨a,0,none⟩) (L+1) c) (L+1) (xs++Ou g f)/\bB (λd=>(Value.slice h L i).ownBlock=some d) w b/\((Value.slice h L i).ownBlock=some a\/w.heap.size<=a)/\w'=b.setCell ⟨k,3,none⟩ (ae (some ⟨a,0,none⟩) (L+1) c))
theorem IY(N:Nat)(k ad al:Int)(an:ap)(xa:au)(av xc:Nat)(y0 y1:Int)(y2:ap)(ya:au)(yl yc:Nat)(nm:ap)(a6:Int)(base f:Nat)(h:au)(L j:Nat)(xs:List ar)(w:ag)(t:Bool)(aw:Int->Prop)(o:Option (Tm (N+1)))(bG:L<=10000)(aT:f<w.heap.size)(bI:base<=w.heap.size)(ax:Hid (ah w f 3 (ae h L j)/\w.frozen? ⟨f,3,none⟩=false))(aC:Hid (w.ownsRow base 177 5 (ae h L j) L xs))(bb:Hid ((Value.slice h L j).ownBlock≠some f))(aB:Hid (∀W,am w W->ao 201 #[aH f,.agg #[ab ad,ab al,af an,ae xa av xc]] W λe w'=>∃y,e=.returned (.tuple #[ab y,.bool t])/\Hid (am W w'/\aw y)))(aE:Hid (∀W,am w W->ao 117 #[aH f,.agg #[ab y0,ab y1,af y2,ae ya yl yc]] W (xK N o W))):ao 186 #[aH f,.agg #[ab k,ab ad,ab al,af an,ae xa av xc,ab y0,ab y1,af y2,ae ya yl yc,af nm,ab a6]] w (PY N base f h L j xs t aw o w):=by
 obtain⟨I,aV,a1,a2,a3⟩:=bU KE;have O:Hid (Tryz.prog.info? 177=some I/\I.zero=some (.agg #[ab 0,ab 0,ab 0,af ⟨#[]⟩,ae none 0 0])/\I.size=5/\I.bytes=64):=⟨aV,a1,a2,a3⟩;clear aV a1 a2 a3;have aG:Hid (∃R A,(R=w.alloc (.cells #[ab k,ab ad,ab al,af an,ae xa av xc,ab y0,ab y1,af y2,ae ya yl yc,af nm,ab a6] 248)/\A=w.heap.size)/\am w R/\∀W,am R W->ah W A 5 (ab y0)/\ah W A 6 (ab y1)/\ah W A 7 (af y2)/\ah W A 8 (ae ya yl yc)):=by
  refine⟨_,_,⟨rfl,rfl⟩,aS _ _,λW bj=>?_⟩;have c:=(bj.block w.heap.size (by simp)).trans (aD w _);exact⟨ai c 5,ai c 6,ai c 7,ai c 8⟩
 go_enter func186,ntmps186;go_wp2_with fail;obtain⟨R,A,⟨a4,aZ⟩,aP,aQ⟩:=aG.out;rw[<-a4,<-aZ];have S:=aq aP;have a8:=aq aQ;clear a4 aZ aP aQ aG;refine(aB _ S).mono ?_;rintro e bJ ⟨y,rfl,J⟩;have C:=aq (S.trans (J.1.mono S.size));have a9:=aq J.2;obtain⟨bC,bD,bE,bF⟩:=a8 _ J.1;clear J aB;cases t
 ·go_wp2_with fail
  go_ret
  exact⟨rfl,λ_=>C,λc=>(by cases c)⟩
 ·go_wp2_with fail;refine(aE _ C).mono ?_;rintro e u ⟨a,rfl,B⟩;have D:=aq (C.trans (B.1.mono C.size));cases o with
  | none=>
   simp only[nz];go_wp2_with fail
   go_ret
   exact⟨rfl,λ_=>D.alloc D.size _,λc=>(by cases c)⟩
  | some bK=>
   simp only[nA];have aL:=aq B.2.1;have bg:=aq B.2.2.1;have bh:=aq B.2.2.2;have be:=aq C.size;have aJ:Hid (∃d p,(d=u.alloc (.cells #[ab a.1.1,ab a.1.2.1,af a.1.2.2,ae a.2.1.1 a.2.2.length a.2.1.2] 31)/\p=u.heap.size)/\am u d/\d.heap[p]?=some (.cells #[ab a.1.1,ab a.1.2.1,af a.1.2.2,ae a.2.1.1 a.2.2.length a.2.1.2] 31)/\d.heap.size=u.heap.size+1):=⟨_,_,⟨rfl,rfl⟩,aS _ _,aD _ _,by simp⟩;clear B aE;go_wp2_with fail;obtain⟨d,p,⟨a5,aa⟩,r⟩:=aJ.out;rw[<-a5,<-aa];have bd:Hid (p=u.heap.size):=aa;replace r:=aq r;clear a5 aa aJ;have M:=aq (D.trans (r.1.mono D.size));obtain⟨l,aW⟩:∃l:Obj,l=.cells #[ab y,ab a.1.1,ab a.1.2.1,af a.1.2.2,ae a.2.1.1 a.2.2.length a.2.1.2] 177:=⟨_,rfl⟩;have U:Hid (∀W:ag,am d W->ah W f 3 (ae h L j)/\ah W p 0 (ab a.1.1)/\ah W p 1 (ab a.1.2.1)/\ah W p 2 (af a.1.2.2)/\ah W p 3 (ae a.2.1.1 a.2.2.length a.2.1.2)):=λW c=>by
    have Q:=(c.block p (aI.1 r.2.1).1).trans r.2.1;have Z:=M.trans (c.mono M.size);exact⟨(Z.cell (p:=⟨f,3,none⟩) aT).trans ax.1,ai Q 0,ai Q 1,ai Q 2,ai Q 3⟩
   have E:Hid (am d (d.alloc l).drew):=(aS _ l).drew;have s:=U d.drew (aA _ _).drew;have X:=aq (U _ E);have K:=aq (M.trans (E.mono M.size));have az:Hid ((d.alloc l).drew.ownsRow base 177 5 (ae h L j) L xs):=bw aC (aR K λ_=>False) λ_ _ c=>c;have ay:Hid ((d.alloc l).drew.heap[d.heap.size]?=some l):=aD d l;have F:Hid ((d.alloc l).drew.heap.size=d.heap.size+1):=(show _=_ by simp[World.drew]);have P:Hid (d.heap.size=u.heap.size+1/\w.heap.size<=u.heap.size):=⟨r.2.2,D.size⟩;have aM:Hid (In (d.alloc l).drew.heap.size (d.alloc l).drew (N+1) a):=(aL.below (r.1.trans (E.mono r.1.size))).mono (by have:=r.1.size;have:=E.size;omega);rw[aW]at E X K az ay F aM;clear aW l;obtain⟨bs,bv,bx,bz,bA⟩:=U d (aA _ _);refine wp_region_noPanic ?_;refine jU (λW=>ah W f 3 (ae h L j)/\ah W p 0 (ab a.1.1)/\ah W p 1 (ab a.1.2.1)/\ah W p 2 (af a.1.2.2)/\ah W p 3 (ae a.2.1.1 a.2.2.length a.2.1.2)) 12 (by kernel_rfl) ?_
   try simp only[eh]
   refine bf (i:=0) (v:= ?_) rfl (by kernel_rfl) (by kernel_rfl) (by kernel_rfl) (by kernel_rfl) (λ_ _ _ c=>c) rfl ?_ s ?_;rotate_left
   ·intro w' g
    try dsimp only at g
    go_simp
    try with_reducible rfl
   try simp only[Act.put,ch]
   refine bf (i:=1) (v:= ?_) rfl (by kernel_rfl) (by kernel_rfl) (by kernel_rfl) (by kernel_rfl) (λ_ _ _ c=>c) rfl ?_ s ?_;rotate_left
   ·intro w' g
    try dsimp only at g
    go_simp
    try with_reducible rfl
   try simp only[Act.put]
   refine bf (i:=2) (v:= ?_) rfl (by kernel_rfl) (by kernel_rfl) (by kernel_rfl) (by kernel_rfl) (λ_ _ _ c=>c) rfl ?_ s ?_;rotate_left
   ·intro w' g
    try dsimp only at g
    go_simp
    try with_reducible rfl
   try simp only[Act.put]
   refine bf (i:=3) (v:= ?_) rfl (by kernel_rfl) (by kernel_rfl) (by kernel_rfl) (by kernel_rfl) (λ_ _ _ c=>c) rfl ?_ s ?_;rotate_left
   ·intro w' g
    try dsimp only at g
    go_simp
    try with_reducible rfl
   try simp only[Act.put]
   refine bf (i:=4) (v:= ?_) rfl (by kernel_rfl) (by kernel_rfl) (by kernel_rfl) (by kernel_rfl) (λ_ _ _ c=>c) rfl ?_ s ?_;rotate_left
   ·intro w' g
    try dsimp only at g
    go_simp
    try with_reducible rfl
   try simp only[Act.put]
   refine bf (i:=5) (v:= ?_) rfl (by kernel_rfl) (by kernel_rfl) (by kernel_rfl) (by kernel_rfl) (λ_ _ _ c=>c) rfl ?_ s ?_;rotate_left
   ·intro w' g
    try dsimp only at g
    go_simp
    try with_reducible rfl
   try simp only[Act.put]
   refine bf (i:=6) (v:= ?_) rfl (by kernel_rfl) (by kernel_rfl) (by kernel_rfl) (by kernel_rfl) (λ_ _ _ c=>c) rfl ?_ s ?_;rotate_left
   ·intro w' g
    try dsimp only at g
    go_simp
    try with_reducible rfl
   try simp only[Act.put]
   refine bf (i:=7) (v:= ?_) rfl (by kernel_rfl) (by kernel_rfl) (by kernel_rfl) (by kernel_rfl) (λ_ _ _ c=>c) rfl ?_ s ?_;rotate_left
   ·intro w' g
    try dsimp only at g
    go_simp
    try with_reducible rfl
   try simp only[Act.put]
   refine dl (i:=8) (by kernel_rfl) rfl rfl (λx m=>?_) (by decide)
   go_simp
   refine m _ _ (λ_=>X) (λbH=>?_);clear m x
   try simp only[Act.put,ch,dz,dy]
   refine dl (i:=9) (by kernel_rfl) rfl rfl (λx m=>?_) (by decide);refine wp_append_lies _ _ _ 114 rfl base 177 I _ 5 64 underlying114 O.1 O.2.1 O.2.2.1 O.2.2.2 rfl (by decide) (ae h L j) L xs rfl az ⟨d.heap.size,0,none⟩ 1 1 (Ou y a) rfl rfl (World.news_of_block (cs:= #[ab y,ab a.1.1,ab a.1.2.1,af a.1.2.2,ae a.2.1.1 a.2.2.length a.2.1.2]) (t:=177) (fr:=(0,0)) ay) (by simp[Ou,Value.oneCell']) (by decide) (by unfold maxLen;omega) (by omega) (by have:=F.out;have:=P.out;omega) _ rfl ?_;intro G bi q aY z Y bk;have ba:Hid (bB (λn=>(Value.slice h L j).ownBlock=some n) w q):=bB.trans (aR K _) (eH z) λ_ _ e=>e;have a7:Hid ((Value.slice h L j).ownBlock=some G\/w.heap.size<=G):=by
    rcases Y with e|e
    ·exact aj e
    ·exact ak (by have:=F.out;have:=P.out;omega)
   have bc:=aq aY;have V:Hid (∀b,(Value.slice h L j).ownBlock=some b->b<w.heap.size):=λb Z=>(aC.lt b Z).2;have aK:Hid (In q.heap.size q (N+1) a/\cv (λn=>w.heap.size<=n/\n≠G) (N+1) a):=by
    have aX:cv (λn=>w.heap.size<=n/\n<u.heap.size) (N+1) a:=(In.offB bg aL).mono λn H=>⟨aF be H.1,H.2⟩;refine⟨aM.kee (eH z) (aX.mono λn H e=>?_),aX.mono λn H=>⟨H.1,λe=>?_⟩⟩
    ·have:=V n e;omega
    ·rcases Y with aN|aN
     ·have:=V G aN;omega
     ·have:=F.out;have:=P.out;omega
   have T:Hid ((ah q f 3 (ae h L j)/\ah q p 0 (ab a.1.1)/\ah q p 1 (ab a.1.2.1)/\ah q p 2 (af a.1.2.2)/\ah q p 3 (ae a.2.1.1 a.2.2.length a.2.1.2))/\q.frozen? ⟨f,3,none⟩=false):=by
    have bL:=F.out;have bM:=P.out;have bN:=bd.out;have bl:some p≠(Value.slice h L j).ownBlock:=λe=>by
     have:=V p e.symm;omega
    have a0:some f≠(Value.slice h L j).ownBlock:=λe=>bb e.symm;have k:=λbm=>z.cell_far ⟨p,bm,none⟩ (by show p<_;omega) bl;obtain⟨bn,bo,bp,bq,br⟩:=X;refine⟨⟨(z.cell_far ⟨f,3,none⟩ (by show f<_;omega) a0).trans bn,(k 0).trans bo,(k 1).trans bp,(k 2).trans bq,(k 3).trans br⟩,?_⟩;rw[z.frozen_far ⟨f,3,none⟩ (by show f<_;omega) a0];have aU:=ax.2;unfold World.frozen? at aU ⊢;rw[K.out.block f aT];exact aU
   clear aY z Y bk;refine m _ _ (λ_=>T.1) (λaO=>?_);clear m x
   try simp only[Act.put,ch]
   refine dl (i:=10) (by kernel_rfl) rfl rfl (λx m=>?_) (by decide)
   go_simp
   refine m _ _ (λ_=>aO) (λ_=>?_);clear m x
   try simp only[Act.put,ch,dz,dy]
   refine bf (i:=11) (v:= ?_) rfl (by kernel_rfl) (by kernel_rfl) (by kernel_rfl) (by kernel_rfl) (λ_ _ _ c=>c) rfl ?_ aO ?_;rotate_left
   ·intro w' g
    try dsimp only at g
    go_simp
    try with_reducible rfl
   try simp only[Act.put,ch]
   have bu:=T.2;have bt:=T.1.1;refine jT (by kernel_rfl) rfl rfl (by kernel_rfl) (λx m=>?_)
   go_simp
   refine m _ _ (NoPanic.normal ?_);clear m x
   try simp only[Act.put,ch,dz,dy]
   go_wp2_with fail
   go_ret
   exact⟨rfl,λc=>(by cases c),λ_=>⟨y,a,G,bi,q,a9.out,bh.out,aK.out.1,aK.out.2,bc.out,ba.out,a7.out,rfl⟩⟩
theorem Hk:(Tryz.prog.info? 174).map (λi=>(i.zero,i.size,i.bytes))=some (some (.agg #[ab 0,af ⟨#[]⟩,ab 0,ab 0,af ⟨#[]⟩,ae none 0 0]),6,80):=by kernel_rfl
theorem dK{w:ag}{b o:Nat}{v:ar}(j:Nat)(a:j≠o):(w.setCell ⟨b,o,none⟩ v).cell? ⟨b,j,none⟩=w.cell? ⟨b,j,none⟩:=by
 unfold World.cell? World.setCell;simp only[bQ];cases h:w.heap[b]? with
 | none=>simp
 | some c=>cases c<;>simp[Ne.symm a]
theorem g9{w:ag}{b o j:Nat}{v:ar}:(w.setCell ⟨b,o,none⟩ v).frozen? ⟨b,j,none⟩=w.frozen? ⟨b,j,none⟩:=by
 unfold World.frozen? World.setCell;simp only[bQ];cases h:w.heap[b]? with
 | none=>simp
 | some a=>cases a<;>simp
def Pv{N:Nat}(b:Int)(nm:ap)(a:Tm (N+1)):List ar:=[ab b,af nm,ab a.1.1,ab a.1.2.1,af a.1.2.2,ae a.2.1.1 a.2.2.length a.2.1.2]
def PZ(N base g:Nat)(h:au)(L i:Nat)(xs:List ar)(t:Bool)(next:Int)(nm:ap)(l m:Nat)(o:Option (Tm (N+1)))(w:ag)(e:Ending)(w':ag):Prop:=
 e=.returned (.bool (o.isSome && t))/\((o.isSome && t)=false->am w w')/\
  ((o.isSome && t)=true->∃(f:Tm (N+1))(a c:Nat)(b j k:ag),aB (N+1) f (N+1) (o.getD (xg N))=true/\In b.heap.size b (N+1) f/\cv (λd=>w.heap.size<=d/\d≠a) (N+1) f/\b.ownsRow base 174 6 (ae (some ⟨a,0,none⟩) (L+1) c) (L+1) (xs++Pv next nm f)/\bB (λd=>(Value.slice h L i).ownBlock=some d) w b/\((Value.slice h L i).ownBlock=some a\/w.heap.size<=a)/\j=b.setCell ⟨g,4,none⟩ (ae (some ⟨a,0,none⟩) (L+1) c)/\k=(cZ j l (m*4) (ab 3) (ab next) (af ⟨#[]⟩) (ae none 0 0)).drew/\w'=k.setCell ⟨g,2,none⟩ (ab (next+1)))
theorem EV(N:Nat)(k T U:Int)(V:ap)(xa:au)(X xc:Nat)(y0 y1:Int)(y2:ap)(ya:au)(yl yc:Nat)(nm:ap)(g:Nat)(base f:Nat)(r:au)(L s:Nat)(xs:List ar)(w:ag)(o:Option (Tm (N+1)))(d P:Nat)(next:Int)(H ad:Int)(al:ap)(an:au)(aw av:Nat)(cS:g<4)(cM:L<=10000)(aY:f<w.heap.size)(bc:d<w.heap.size)(bO:f≠d)(cN:base<=w.heap.size)(cQ:0<=next)(cR:next<=100000)(cz:nm.size<=2048)(K:Hid (ah w f 4 (ae r L s)/\ah w f 0 (ae (some ⟨d,0,none⟩) 4 P)/\ah w f 2 (ab next)/\(∀j,w.frozen? ⟨f,j,none⟩=false)/\∀j,w.frozen? ⟨d,j,none⟩=false))(bt:Hid (w.ownsRow base 174 6 (ae r L s) L xs))(a6:Hid ((Value.slice r L s).ownBlock≠some f/\(Value.slice r L s).ownBlock≠some d))(J:Hid (ah w d (g*4) (ab H)/\ah w d (g*4+1) (ab ad)/\ah w d (g*4+2) (af al)/\ah w d (g*4+3) (ae an aw av)))(a3:Hid (∀W,ao 197 #[.agg #[ab H,ab ad,af al,ae an aw av]] W λe w'=>e=.returned (.bool (!(H==6)))/\am W w'))(bu:Hid (∀W,am w W->ao 117 #[aH f,.agg #[ab y0,ab y1,af y2,ae ya yl yc]] W (xK N o W))):ao 187 #[aH f,.agg #[ab k,ab T,ab U,af V,ae xa X xc,ab y0,ab y1,af y2,ae ya yl yc,af nm,ab g]] w (PZ N base f r L s xs (H==6) next nm d g o w):=by
 obtain⟨aM,bQ,bX,bY,bZ⟩:=bU Hk;have aP:Hid (Tryz.prog.info? 174=some aM/\aM.zero=some (.agg #[ab 0,af ⟨#[]⟩,ab 0,ab 0,af ⟨#[]⟩,ae none 0 0])/\aM.size=6/\aM.bytes=80):=⟨bQ,bX,bY,bZ⟩;clear bQ bX bY bZ;obtain⟨t,bW⟩:∃t,t=(H==6):=⟨_,rfl⟩;rw[<-bW]at a3 ⊢;clear bW;have bv:Hid (∃aN h,(aN=w.alloc (.cells #[ab k,ab T,ab U,af V,ae xa X xc,ab y0,ab y1,af y2,ae ya yl yc,af nm,ab g] 248)/\h=w.heap.size)/\am w aN/\aN.heap[h]?=some (.cells #[ab k,ab T,ab U,af V,ae xa X xc,ab y0,ab y1,af y2,ae ya yl yc,af nm,ab g] 248)):=⟨_,_,⟨rfl,rfl⟩,aS _ _,aD w _⟩;go_enter func187,ntmps187;go_wp2_with fail;obtain⟨aN,h,⟨b0,aZ⟩,bI,bd⟩:=bv.out;rw[<-b0,<-aZ];have ay:=aq bI;have bl:=aq bd;have aE:Hid (h<aN.heap.size/\w.heap.size<=h):=⟨(aI.1 bd).1,by omega⟩;clear b0 aZ bI bd bv;refine(bu _ ay).mono ?_;rintro e E ⟨a,rfl,O⟩;have az:=aq (ay.trans (O.1.mono ay.size));have b8:Hid (E.heap[h]?=some (.cells #[ab k,ab T,ab U,af V,ae xa X xc,ab y0,ab y1,af y2,ae ya yl yc,af nm,ab g] 248)):=(O.1.block h aE.1).trans bl;have bs:Hid (h<E.heap.size):=aW aE.1 O.1.size;have bD:=aq O.2.1;have ce:=aq O.2.2.1;have cf:=aq O.2.2.2;have cd:=aq ay.size;clear O bu ay bl;have bx:Hid (∃z p,(z=E.alloc (.cells #[ab a.1.1,ab a.1.2.1,af a.1.2.2,ae a.2.1.1 a.2.2.length a.2.1.2] 31)/\p=E.heap.size)/\am E z/\z.heap[p]?=some (.cells #[ab a.1.1,ab a.1.2.1,af a.1.2.2,ae a.2.1.1 a.2.2.length a.2.1.2] 31)/\z.heap.size=E.heap.size+1):=⟨_,_,⟨rfl,rfl⟩,aS _ _,aD _ _,by simp⟩;cases o with
 | none=>
  simp only[nz];go_wp2_with fail;go_region
  all_goals
   go_wp2_with fail
   go_ret
   exact⟨rfl,λ_=>(az.alloc az.size _).drew,λc=>(by cases c)⟩
 | some cX=>
  simp only[nA];go_wp2_with fail;obtain⟨z,p,⟨b1,M⟩,D⟩:=bx.out;rw[<-b1,<-M];have b9:Hid (p=E.heap.size):=M;replace D:=aq D;clear b1 M bx;have I:=aq (az.trans (D.1.mono az.size));have a4:Hid (∀W:ag,am z W->W.heap[h]?=some (.cells #[ab k,ab T,ab U,af V,ae xa X xc,ab y0,ab y1,af y2,ae ya yl yc,af nm,ab g] 248)/\W.heap[p]?=some (.cells #[ab a.1.1,ab a.1.2.1,af a.1.2.2,ae a.2.1.1 a.2.2.length a.2.1.2] 31)):=λW c=>⟨(c.block h (by have:=bs.out;have:=D.2.2;omega)).trans ((D.1.block h bs).trans b8),(c.block p (aI.1 D.2.1).1).trans D.2.1⟩;have aC:Hid (∀W:ag,am z W->(ah W f 0 (ae (some ⟨d,0,none⟩) 4 P)/\ah W h 10 (ab g))/\ah W d (g*4) (ab H)/\ah W d (g*4+1) (ab ad)/\ah W d (g*4+2) (af al)/\ah W d (g*4+3) (ae an aw av)):=λW c=>by
   have R:=I.trans (c.mono I.size);have aX:=λj=>R.cell (p:=⟨d,j,none⟩) bc;exact⟨⟨(R.cell (p:=⟨f,0,none⟩) aY).trans K.2.1,ai (a4 W c).1 10⟩,(aX _).trans J.1,(aX _).trans J.2.1,(aX _).trans J.2.2.1,(aX _).trans J.2.2.2⟩
  obtain⟨⟨co,cp⟩,cq,cr,ct,cu⟩:=aC.out z (aA _ _);have Z:Hid (am z z.drew):=(aA _ _).drew;have cV:(0:Int)<=(g:Int):=by omega
  have cW:(g:Int)<4:=by omega
  have bp:=aq (a3 z.drew);clear a3;cases t
  ·go_region_held3 (λW=>(ah W f 0 (ae (some ⟨d,0,none⟩) 4 P)/\ah W h 10 (ab g))/\ah W d (g*4) (ab H)/\ah W d (g*4+1) (ab ad)/\ah W d (g*4+2) (af al)/\ah W d (g*4+3) (ae an aw av)) (first|(go_keep;done)|exact aC _ Z|exact aC _ A) ((first
     | (go_at_call 197;refine bp.mono ?_;rintro e S ⟨rfl,aJ⟩;have A:=aq (Z.trans (aJ.mono Z.size));clear aJ)))
   go_wp2_with fail
   go_ret
   exact⟨rfl,λ_=>I.trans (A.mono I.size),λc=>(by cases c)⟩
  ·go_region_held3 (λW=>(ah W f 0 (ae (some ⟨d,0,none⟩) 4 P)/\ah W h 10 (ab g))/\ah W d (g*4) (ab H)/\ah W d (g*4+1) (ab ad)/\ah W d (g*4+2) (af al)/\ah W d (g*4+3) (ae an aw av)) (first|(go_keep;done)|exact aC _ Z|exact aC _ A) ((first
     | (go_at_call 197;refine bp.mono ?_;rintro e S ⟨rfl,aJ⟩;have A:=aq (Z.trans (aJ.mono Z.size));clear aJ)))
   clear co cp cq cr ct cu;go_wp2_with fail;have bi:=aq (I.trans (A.mono I.size));have aQ:Hid (∀W:ag,am S W->ah W f 4 (ae r L s)/\ah W f 2 (ab next)/\ah W h 9 (af nm)/\ah W p 0 (ab a.1.1)/\ah W p 1 (ab a.1.2.1)/\ah W p 2 (af a.1.2.2)/\ah W p 3 (ae a.2.1.1 a.2.2.length a.2.1.2)):=λW c=>by
    have bH:=A.trans (c.mono A.size);have R:=I.trans (bH.mono I.size);obtain⟨aZ,M⟩:=a4.out W bH;exact⟨(R.cell (p:=⟨f,4,none⟩) aY).trans K.1,(R.cell (p:=⟨f,2,none⟩) aY).trans K.2.2.1,ai aZ 9,ai M 0,ai M 1,ai M 2,ai M 3⟩
   have x:=aQ S.drew (aA _ _).drew;have bo:Hid (am S S.drew):=(aA _ _).drew;obtain⟨cg,d3,b4,ck,cl,cm,cn⟩:=aQ.out S (aA _ _);have ca:=aq (en nm S.drew cz);refine wp_region_noPanic ?_;refine jU (λW=>ah W f 4 (ae r L s)/\ah W f 2 (ab next)/\ah W h 9 (af nm)/\ah W p 0 (ab a.1.1)/\ah W p 1 (ab a.1.2.1)/\ah W p 2 (af a.1.2.2)/\ah W p 3 (ae a.2.1.1 a.2.2.length a.2.1.2)) 18 (by kernel_rfl) ?_
   try simp only[eh]
   refine bf (i:=0) (v:= ?_) rfl (by kernel_rfl) (by kernel_rfl) (by kernel_rfl) (by kernel_rfl) (λ_ _ _ c=>c) rfl ?_ x ?_;rotate_left
   ·intro w' l
    try dsimp only at l
    go_simp
    try with_reducible rfl
   try simp only[Act.put,ch]
   refine bf (i:=1) (v:= ?_) rfl (by kernel_rfl) (by kernel_rfl) (by kernel_rfl) (by kernel_rfl) (λ_ _ _ c=>c) rfl ?_ x ?_;rotate_left
   ·intro w' l
    try dsimp only at l
    go_simp
    try with_reducible rfl
   try simp only[Act.put]
   refine bf (i:=2) (v:= ?_) rfl (by kernel_rfl) (by kernel_rfl) (by kernel_rfl) (by kernel_rfl) (λ_ _ _ c=>c) rfl ?_ x ?_;rotate_left
   ·intro w' l
    try dsimp only at l
    go_simp
    try with_reducible rfl
   try simp only[Act.put]
   refine bf (i:=3) (v:= ?_) rfl (by kernel_rfl) (by kernel_rfl) (by kernel_rfl) (by kernel_rfl) (λ_ _ _ c=>c) rfl ?_ x ?_;rotate_left
   ·intro w' l
    try dsimp only at l
    go_simp
    try with_reducible rfl
   try simp only[Act.put]
   refine bf (i:=4) (v:= ?_) rfl (by kernel_rfl) (by kernel_rfl) (by kernel_rfl) (by kernel_rfl) (λ_ _ _ c=>c) rfl ?_ x ?_;rotate_left
   ·intro w' l
    try dsimp only at l
    go_simp
    try with_reducible rfl
   try simp only[Act.put]
   refine bf (i:=5) (v:= ?_) rfl (by kernel_rfl) (by kernel_rfl) (by kernel_rfl) (by kernel_rfl) (λ_ _ _ c=>c) rfl ?_ x ?_;rotate_left
   ·intro w' l
    try dsimp only at l
    go_simp
    try with_reducible rfl
   try simp only[Act.put]
   refine bf (i:=6) (v:= ?_) rfl (by kernel_rfl) (by kernel_rfl) (by kernel_rfl) (by kernel_rfl) (λ_ _ _ c=>c) rfl ?_ x ?_;rotate_left
   ·intro w' l
    try dsimp only at l
    go_simp
    try with_reducible rfl
   try simp only[Act.put]
   refine bf (i:=7) (v:= ?_) rfl (by kernel_rfl) (by kernel_rfl) (by kernel_rfl) (by kernel_rfl) (λ_ _ _ c=>c) rfl ?_ x ?_;rotate_left
   ·intro w' l
    try dsimp only at l
    go_simp
    try with_reducible rfl
   try simp only[Act.put]
   refine bf (i:=8) (v:= ?_) rfl (by kernel_rfl) (by kernel_rfl) (by kernel_rfl) (by kernel_rfl) (λ_ _ _ c=>c) rfl ?_ x ?_;rotate_left
   ·intro w' l
    try dsimp only at l
    go_simp
    try with_reducible rfl
   try simp only[Act.put]
   refine bf (i:=9) (v:= ?_) rfl (by kernel_rfl) (by kernel_rfl) (by kernel_rfl) (by kernel_rfl) (λ_ _ _ c=>c) rfl ?_ x ?_;rotate_left
   ·intro w' l
    try dsimp only at l
    go_simp
    try with_reducible rfl
   try simp only[Act.put]
   refine bf (i:=10) (v:= ?_) rfl (by kernel_rfl) (by kernel_rfl) (by kernel_rfl) (by kernel_rfl) (λ_ _ _ c=>c) rfl ?_ x ?_;rotate_left
   ·intro w' l
    try dsimp only at l
    go_simp
    try with_reducible rfl
   try simp only[Act.put]
   refine bf (i:=12) (v:= ?_) rfl (by kernel_rfl) (by kernel_rfl) (by kernel_rfl) (by kernel_rfl) (λ_ _ _ c=>c) rfl ?_ x ?_;rotate_left
   ·intro w' l
    try dsimp only at l
    go_simp
    try with_reducible rfl
   try simp only[Act.put]
   refine dl (i:=11) (by kernel_rfl) rfl rfl (λG q=>?_) (by decide)
   go_simp
   refine ca.mono ?_;rintro e u ⟨rfl,bJ⟩;have F:=aq (bo.trans (bJ.mono bo.size));have ba:=aQ u F;refine q _ _ (λ_=>ba) (λ_=>?_);clear q G bJ
   try simp only[Act.put,ch,dz,dy]
   have bj:=aq (bi.trans (F.mono bi.size));obtain⟨y,bR⟩:∃y:Obj,y=.cells #[ab next,af nm,ab a.1.1,ab a.1.2.1,af a.1.2.2,ae a.2.1.1 a.2.2.length a.2.1.2] 174:=⟨_,rfl⟩;have aB:Hid (am u (u.alloc y)):=aS _ y;have a7:=aq (aQ _ (F.trans (aB.mono F.size)));have a1:=aq (bj.trans (aB.mono bj.size));have br:Hid ((u.alloc y).ownsRow base 174 6 (ae r L s) L xs):=bw bt (aR a1 λ_=>False) λ_ _ c=>c;have bq:Hid ((u.alloc y).heap[u.heap.size]?=some y):=aD u y;have aa:Hid ((u.alloc y).heap.size=u.heap.size+1):=(show _=_ by simp);have aG:Hid (z.heap.size=E.heap.size+1/\w.heap.size<=E.heap.size/\z.heap.size<=u.heap.size):=⟨D.2.2,az.size,aF A.size F.size⟩;have bE:Hid (In (u.alloc y).heap.size (u.alloc y) (N+1) a):=(bD.below (D.1.trans ((A.trans ((F.trans (aB.mono F.size)).mono A.size)).mono D.1.size))).mono (by have:=aa.out;have:=aG.out;omega);have a5:Hid ((u.alloc y).heap[h]?=some (.cells #[ab k,ab T,ab U,af V,ae xa X xc,ab y0,ab y1,af y2,ae ya yl yc,af nm,ab g] 248)):=(a4 _ (A.trans ((F.trans (aB.mono F.size)).mono A.size))).1;rw[bR]at aB a7 a1 br bq aa bE a5;clear bR y;refine bf (i:=13) (v:= ?_) rfl (by kernel_rfl) (by kernel_rfl) (by kernel_rfl) (by kernel_rfl) (λ_ _ _ c=>c) rfl ?_ ba ?_;rotate_left
   ·intro w' l
    try dsimp only at l
    go_simp
    try with_reducible rfl
   try simp only[Act.put]
   refine dl (i:=14) (by kernel_rfl) rfl rfl (λG q=>?_) (by decide)
   go_simp
   refine q _ _ (λ_=>a7) (λcw=>?_);clear q G
   try simp only[Act.put,ch,dz,dy]
   refine dl (i:=15) (by kernel_rfl) rfl rfl (λG q=>?_) (by decide);refine wp_append_lies _ _ _ 115 rfl base 174 aM _ 6 80 underlying115 aP.1 aP.2.1 aP.2.2.1 aP.2.2.2 rfl (by decide) (ae r L s) L xs rfl br ⟨u.heap.size,0,none⟩ 1 1 (Pv next nm a) rfl rfl (World.news_of_block (cs:= #[ab next,af nm,ab a.1.1,ab a.1.2.1,af a.1.2.2,ae a.2.1.1 a.2.2.length a.2.1.2]) (t:=174) (fr:=(0,0)) bq) (by simp[Pv,Value.oneCell']) (by decide) (by unfold maxLen;omega) (by omega) (by have:=aa.out;have:=aG.out;omega) _ rfl ?_;intro Q a8 m bT ax bb cy;have aT:Hid (bB (λC=>(Value.slice r L s).ownBlock=some C) w m):=bB.trans (aR a1 _) (eH ax) λ_ _ e=>e;have b5:Hid ((Value.slice r L s).ownBlock=some Q\/w.heap.size<=Q):=by
    rcases bb with e|e
    ·exact aj e
    ·exact ak (by have:=aa.out;have:=aG.out;omega)
   have b7:=aq bT;have aU:Hid (∀b,(Value.slice r L s).ownBlock=some b->b<w.heap.size):=λb R=>(bt.lt b R).2;have bC:Hid (In m.heap.size m (N+1) a/\cv (λC=>w.heap.size<=C/\C≠Q) (N+1) a):=by
    have bS:cv (λC=>w.heap.size<=C/\C<E.heap.size) (N+1) a:=(In.offB ce bD).mono λC aL=>⟨aF cd aL.1,aL.2⟩;refine⟨bE.kee (eH ax) (bS.mono λC aL e=>?_),bS.mono λC aL=>⟨aL.1,λe=>?_⟩⟩
    ·have:=aU C e;omega
    ·rcases bb with bF|bF
     ·have:=aU Q bF;omega
     ·have:=aa.out;have:=aG.out;omega
   have Y:Hid (m.heap[f]?=w.heap[f]? /\m.heap[d]?=w.heap[d]? /\m.heap[h]?=some (.cells #[ab k,ab T,ab U,af V,ae xa X xc,ab y0,ab y1,af y2,ae ya yl yc,af nm,ab g] 248)):=by
    refine⟨aT.block f aY a6.1,aT.block d bc a6.2,(ax.block h (aI.1 a5).1 λe=>?_).trans a5⟩;have:=aU h e.symm;have:=aE.2;omega
   have bm:Hid (ah m f 4 (ae r L s)/\ah m f 2 (ab next)/\ah m h 9 (af nm)/\ah m p 0 (ab a.1.1)/\ah m p 1 (ab a.1.2.1)/\ah m p 2 (af a.1.2.2)/\ah m p 3 (ae a.2.1.1 a.2.2.length a.2.1.2)):=by
    have cY:=aa.out;have c0:=aG.out;have c1:=b9.out;have cA:some p≠(Value.slice r L s).ownBlock:=λe=>by
     have:=aU p e.symm;omega
    have k:=λj=>ax.cell_far ⟨p,j,none⟩ (by show p<_;omega) cA;obtain⟨cG,cH,cU,cI,cJ,cK,cL⟩:=a7;have bN:=λj=>ax.cell_far ⟨f,j,none⟩ (by show f<_;omega) λe=>a6.1 e.symm;exact⟨(bN 4).trans cG,(bN 2).trans cH,ai Y.2.2 9,(k 0).trans cI,(k 1).trans cJ,(k 2).trans cK,(k 3).trans cL⟩
   clear bT ax bb cy;refine q _ _ (λ_=>bm) (λa9=>?_);clear q G
   try simp only[Act.put,ch]
   refine dl (i:=16) (by kernel_rfl) rfl rfl (λG q=>?_) (by decide)
   go_simp
   refine q _ _ (λ_=>a9) (λ_=>?_);clear q G
   try simp only[Act.put,ch,dz,dy]
   refine bf (i:=17) (v:= ?_) rfl (by kernel_rfl) (by kernel_rfl) (by kernel_rfl) (by kernel_rfl) (λ_ _ _ c=>c) rfl ?_ a9 ?_;rotate_left
   ·intro w' l
    try dsimp only at l
    go_simp
    try with_reducible rfl
   try simp only[Act.put,ch]
   have cj:m.frozen? ⟨f,4,none⟩=false:=by
    have B:=K.2.2.2.1 4;unfold World.frozen? at B ⊢;rw[Y.out.1];exact B
   have ci:=bm.1;refine jT (by kernel_rfl) rfl rfl (by kernel_rfl) (λG q=>?_)
   go_simp
   refine q _ _ (NoPanic.normal ?_);clear q G
   try simp only[Act.put,ch,dz,dy]
   have bV:h≠f:=by have:=aE.2;omega
   have cB:h≠d:=by have:=aE.2;omega
   have cO:f≠h:=λe=>bV e.symm;have cP:d≠h:=λe=>cB e.symm;have bP:d≠f:=λe=>bO e.symm;have bn:Hid (∀j,m.cell? ⟨d,j,none⟩=w.cell? ⟨d,j,none⟩/\m.frozen? ⟨d,j,none⟩=false):=λj=>by
    have B:=K.2.2.2.2 j;unfold World.frozen? at B ⊢;unfold World.cell?;rw[Y.out.2.1];exact⟨rfl,B⟩
   have a2:Hid (∀j,m.cell? ⟨f,j,none⟩=w.cell? ⟨f,j,none⟩/\m.frozen? ⟨f,j,none⟩=false):=λj=>by
    have B:=K.2.2.2.1 j;unfold World.frozen? at B ⊢;unfold World.cell?;rw[Y.out.1];exact⟨rfl,B⟩
   have bz:Hid (∃n,n=m.setCell ⟨f,4,none⟩ (ae (some ⟨Q,0,none⟩) (L+1) a8)/\(ah n f 0 (ae (some ⟨d,0,none⟩) 4 P)/\ah n h 10 (ab g)/\ah n f 2 (ab next))/\(ah n d (g*4) (ab H)/\ah n d (g*4+1) (ab ad)/\ah n d (g*4+2) (af al)/\ah n d (g*4+3) (ae an aw av))/\(∀j,n.frozen? ⟨d,j,none⟩=false)/\n.frozen? ⟨f,2,none⟩=false):=by
    have be:=bK m f 4 (ae (some ⟨Q,0,none⟩) (L+1) a8);have bL:d<m.heap.size:=aW bc aT.size;have cx:=be.block d bL bP;have aV:=λj=>((be.cell j bL bP).trans (bn j).1);refine⟨_,rfl,⟨(dK 0 (by decide)).trans ((a2 0).1.trans K.2.1),(be.cell 10 (aI.1 Y.2.2).1 bV).trans (ai Y.2.2 10),(dK 2 (by decide)).trans ((a2 2).1.trans K.2.2.1)⟩,⟨(aV _).trans J.1,(aV _).trans J.2.1,(aV _).trans J.2.2.1,(aV _).trans J.2.2.2⟩,λj=>?_,?_⟩
    ·have B:=(bn j).2;unfold World.frozen? at B ⊢;rw[cx];exact B
    ·rw[g9];exact(a2 2).2
   go_wp2_with fail;obtain⟨n,bg,⟨b2,b3,bh⟩,⟨cC,cD,cE,cF⟩,aK,bG⟩:=bz.out;rw[<-bg];have cb:=aq bg;have f0:=aK (g*4);have f1:=aK (g*4+1);have f2:=aK (g*4+2);have f3:=aK (g*4+3);clear bg bz aK x ba cw a9 cg d3 b4 ck cl cm cn cj ci;have b6:Hid (n.drew.cell? ⟨f,0,none⟩=some (ae (some ⟨d,0,none⟩) 4 P)/\n.drew.cell? ⟨h,10,none⟩=some (ab g)/\n.drew.cell? ⟨f,2,none⟩=some (ab next)):=⟨b2,b3,bh⟩;go_region_held3 (λW=>ah W f 0 (ae (some ⟨d,0,none⟩) 4 P)/\ah W h 10 (ab g)/\ah W f 2 (ab next)) (first|exact b6|(go_keep;done)) (fail);have bA:Hid (∃aO,aO=(cZ n d (g*4) (ab 3) (ab next) (af ⟨#[]⟩) (ae none 0 0)).drew/\ah aO f 2 (ab next)/\aO.frozen? ⟨f,2,none⟩=false):=by
    have bM:(cZ n d (g*4) (ab 3) (ab next) (af ⟨#[]⟩) (ae none 0 0)).drew.heap[f]?=n.heap[f]? :=bk (w:=n) (o:=g*4) bO (ab 3) (ab next) (af ⟨#[]⟩) (ae none 0 0);refine⟨_,rfl,?_,?_⟩
    ·have c:=bh;unfold World.cell? at c ⊢;rw[bM];exact c
    ·have c:=bG;unfold World.frozen? at c ⊢;rw[bM];exact c
   obtain⟨aO,a0,cT,b4⟩:=bA.out;have cc:=aq a0;unfold cZ at a0;rw[<-a0];clear a0 bA b2 b3 bh cC cD cE cF f0 f1 f2 f3 bG;go_wp2_with fail
   go_ret
   exact⟨rfl,λc=>(by cases c),λ_=>⟨a,Q,a8,m,n,aO,cf.out,bC.out.1,bC.out.2,b7.out,aT.out,b5.out,cb.out,cc.out,rfl⟩⟩
theorem Lc(k h i:Int)(j:ap)(xa:au)(l xc:Nat)(y0 y1:Int)(y2:ap)(ya:au)(yl yc:Nat)(nm:ap)(g:Int)(c:Nat)(w:ag)(R:Bool->ag->Prop)(D:c<w.heap.size)(B:Hid (∃A,ah w c 6 (.bool A)/\w.frozen? ⟨c,6,none⟩=false))(m:Hid (k=1->∀W,am w W->ao 186 #[aH c,.agg #[ab k,ab h,ab i,af j,ae xa l xc,ab y0,ab y1,af y2,ae ya yl yc,af nm,ab g]] W λe w'=>∃t,e=.returned (.bool t)/\Hid (R t w')))(n:Hid (k=2->∀W,am w W->ao 187 #[aH c,.agg #[ab k,ab h,ab i,af j,ae xa l xc,ab y0,ab y1,af y2,ae ya yl yc,af nm,ab g]] W λe w'=>∃t,e=.returned (.bool t)/\Hid (R t w')))(o:Hid (k=3->∀W,am w W->ao 188 #[aH c,.agg #[ab k,ab h,ab i,af j,ae xa l xc,ab y0,ab y1,af y2,ae ya yl yc,af nm,ab g]] W λe w'=>∃t,e=.returned (.bool t)/\Hid (R t w')))(q:Hid (k≠1->k≠2->k≠3->∀W,am w W->R true (W.setCell ⟨c,6,none⟩ (.bool true)))):ao 154 #[aH c,.agg #[ab k,ab h,ab i,af j,ae xa l xc,ab y0,ab y1,af y2,ae ya yl yc,af nm,ab g]] w λe w'=>∃t,e=.returned (.bool t)/\Hid (R t w'):=by
 have C:Hid (∃a b,(a=w.alloc (.cells #[ab k,ab h,ab i,af j,ae xa l xc,ab y0,ab y1,af y2,ae ya yl yc,af nm,ab g] 248)/\b=w.heap.size)/\am w a/\(ah a b 0 (ab k)/\ah a b 1 (ab h)/\ah a b 2 (ab i)/\ah a b 3 (af j)/\ah a b 4 (ae xa l xc)/\ah a b 5 (ab y0)/\ah a b 6 (ab y1)/\ah a b 7 (af y2)/\ah a b 8 (ae ya yl yc)/\ah a b 9 (af nm)/\ah a b 10 (ab g))):=by
  have d:=aD w (.cells #[ab k,ab h,ab i,af j,ae xa l xc,ab y0,ab y1,af y2,ae ya yl yc,af nm,ab g] 248);exact⟨_,_,⟨rfl,rfl⟩,aS _ _,ai d 0,ai d 1,ai d 2,ai d 3,ai d 4,ai d 5,ai d 6,ai d 7,ai d 8,ai d 9,ai d 10⟩
 go_enter func154,ntmps154;obtain⟨A,F,z⟩:=B.out;go_upto_region 1 with fail;obtain⟨a,b,⟨G,E⟩,y,M,N,P,Q,S,T,U,V,X,Y,O⟩:=C.out;rw[<-G,<-E];have s:=aq y;have I:Hid (ah a c 6 (.bool A)/\a.frozen? ⟨c,6,none⟩=false):=by
  refine⟨(y.cell (p:=⟨c,6,none⟩) D).trans F,?_⟩;unfold World.frozen? at z ⊢;rw[y.block c D];exact z
 clear G E y C F z B;by_cases u:k=1
 ·have r:=aq (m u a s);clear m n o q;subst u;go_wp2_with fail;refine r.mono ?_;rintro e H ⟨t,rfl,f⟩;go_wp2_with fail
  go_ret
  exact⟨t,rfl,f⟩
 ·by_cases v:k=2
  ·have r:=aq (n v a s);clear m n o q;subst v;go_wp2_with fail;refine r.mono ?_;rintro e H ⟨t,rfl,f⟩;go_wp2_with fail
   go_ret
   exact⟨t,rfl,f⟩
  ·by_cases x:k=3
   ·have r:=aq (o x a s);clear m n o q;subst x;go_wp2_with fail;refine r.mono ?_;rintro e H ⟨t,rfl,f⟩;go_wp2_with fail
    go_ret
    exact⟨t,rfl,f⟩
   ·have f:=aq (q u v x a s);obtain⟨Z,aa⟩:=I;have J:¬(1:Int)=k:=λe=>u e.symm;have K:¬(2:Int)=k:=λe=>v e.symm;have L:¬(3:Int)=k:=λe=>x e.symm;clear m n o q;go_wp2_with fail
    go_ret
    exact⟨true,rfl,f⟩
def PK{n:Nat}(a:Ac (n+1)):ar:=.agg #[ab a.1,ab a.2.1.1.1.1,ab a.2.1.1.1.2.1,af a.2.1.1.1.2.2,ae a.2.1.1.2.1.1 a.2.1.1.2.2.length a.2.1.1.2.1.2,ab a.2.1.2.1.1,ab a.2.1.2.1.2.1,af a.2.1.2.1.2.2,ae a.2.1.2.2.1.1 a.2.1.2.2.2.length a.2.1.2.2.1.2,af a.2.2.1,ab a.2.2.2]
theorem JP{n:Nat}(l:List (Ac (n+1)))(s:au)(L C r:Nat)(w:ag)(S:Nat->ag->Prop)(k:ag->Prop)(D:L<=1000000)(z:Hid (l.length=L))(x:Hid (∀(i:Nat)(a:Ac (n+1)) W,l[i]?=some a->S i W->∃b o,s=some ⟨b,o,none⟩/\∀(j:Nat)(u:ar),(gC (n+1) a)[j]?=some u->ah W b (o+i*11+j) u))(HB:Hid (∀i W q,S i W->am W q->S i q))(A:Hid (∀(i:Nat)(a:Ac (n+1)) W,l[i]?=some a->S i W->ao 154 #[aH r,PK a] W λe w'=>∃t,e=.returned (.bool t)/\Hid ((t=true->S (i+1) w')/\(t=false->k w'))))(v:Hid (S 0 w)):ao 116 #[aH r,ae s L C] w λe w'=>∃t,e=.returned (.bool t)/\Hid ((t=true->S L w')/\(t=false->k w')):=by
 go_enter func116,ntmps116;go_wp2_with fail;go_loopw [9] (λi wr=>∃j:Nat,j<=L/\i=ab j/\Hid (S j wr)) (λi _=>L-(intOf i).toNat)
 case atStart=>exact⟨0,aM _,rfl,v⟩
 case round=>
  obtain⟨j,E,rfl,g⟩:=hrel;by_cases B:j<L
  ·obtain⟨a,h⟩:∃a,l[j]?=some a:=⟨l[j]'(by rw[z.out];exact B),aN _⟩;obtain⟨b,o,rfl,c⟩:=x j a wr h g;have I:ah wr b (o+j*11) (ab a.1):=c 0 _ rfl;have J:=c 1 _ rfl;have M:=c 2 _ rfl;have N:=c 3 _ rfl;have O:=c 4 _ rfl;have P:=c 5 _ rfl;have Q:=c 6 _ rfl;have R:=c 7 _ rfl;have T:=c 8 _ rfl;have U:=c 9 _ rfl;have K:=c 10 _ rfl;have F:(0:Int)<=(j:Int):=by omega
   have G:(j:Int)<(L:Int):=by omega
   have m:=aq λW (d:am wr W)=>A j a W h (HB _ _ _ g d);unfold PK at m;have y:Hid (∀o:Obj,am wr (wr.alloc o)):=λo=>aS _ o;clear c h;go_wp2_with fail;refine(m _ (y _)).mono ?_;rintro e H ⟨t,rfl,p⟩;cases t
   ·have f:=aq (p.2 rfl);go_wp2_with fail
    go_ret
    exact⟨false,rfl,λd=>(by cases d),λ_=>f.out⟩
   ·have f:=aq (p.1 rfl);go_wp2_with fail;go_roundw
    case rel=>exact⟨j+1,by omega,by go_num,f⟩
    case measure=>simp[intOf];omega
  ·obtain rfl:j=L:=by omega
   go_wp2_with fail
   go_ret
   exact⟨true,rfl,λ_=>g,λd=>(by cases d)⟩
theorem BF(N:Nat)(s0 s1:Int)(Y:ap)(sa:au)(sl sc:Nat)(P Q:Int)(R:ap)(ma:au)(U T:Nat)(l:au)(m ac:Nat)(o p:Int)(r:ap)(s:au)(v u:Nat)(X n:Nat)(w:ag)(S:ag->Prop)(V:Bool->Tm (N+1)->ag->Prop)(c:Int->ag->Prop)(E:Hid (∀W,am w W->ao 116 #[aH n,ae l m ac] W λe w'=>∃t,e=.returned (.bool t)/\Hid ((∀q a,w.heap.size<=q->W.heap[q]?=some a->w'.heap[q]?=some a)/\(t=true->S w')/\(t=false->c 2 w'))))(G:Hid (∀W,S W->ao 117 #[aH n,.agg #[ab o,ab p,af r,ae s v u]] W λe w'=>∃(y:Tm (N+1))(t:Bool),e=.returned (.tuple #[.agg #[ab y.1.1,ab y.1.2.1,af y.1.2.2,ae y.2.1.1 y.2.2.length y.2.1.2],.bool t])/\Hid (V t y w')))(F:Hid (∀y d g,V false y d->am d g->c 2 g))(HB:Hid (∀y d g,V true y d->am d g->ao 118 #[aH X,.agg #[ab y.1.1,ab y.1.2.1,af y.1.2.2,ae y.2.1.1 y.2.2.length y.2.1.2]] g λe w'=>∃t,e=.returned (.bool t)/\Hid ((t=false->c 3 w')/\(t=true->∃i,ah w' n 6 (.bool i)/\(i=true->c 1 w')/\(i=false->c 0 w'))))):ao 79 #[aH X,.agg #[ab s0,ab s1,af Y,ae sa sl sc,ab P,ab Q,af R,ae ma U T,ae l m ac,ab o,ab p,af r,ae s v u],aH n] w λe w'=>∃f,e=.returned (ab f)/\c f w':=by
 have H:Hid (∃x q a,(x=w.alloc a/\q=w.heap.size/\a=.cells #[ab s0,ab s1,af Y,ae sa sl sc,ab P,ab Q,af R,ae ma U T,ae l m ac,ab o,ab p,af r,ae s v u] 162)/\am w x/\x.heap[q]?=some a/\w.heap.size<=q/\∀W:ag,W.heap[q]?=some a->ah W q 8 (ae l m ac)/\ah W q 9 (ab o)/\ah W q 10 (ab p)/\ah W q 11 (af r)/\ah W q 12 (ae s v u)):=
  ⟨_,_,_,⟨rfl,rfl,rfl⟩,aS _ _,aD _ _,av _,λW h=>⟨ai h 8,ai h 9,ai h 10,ai h 11,ai h 12⟩⟩
 go_enter func79,ntmps79;go_wp2_with fail;obtain⟨x,q,a,⟨D,L,K⟩,I,M,O,J⟩:=H.out;rw[K]at D;rw[<-D];have Z:=aq I;have ad:=aq J;have aj:=aq M;have ak:=aq O;rw[<-L];clear D L K I J M O H;refine(E _ Z).mono ?_;rintro e an ⟨t,rfl,j⟩;obtain⟨ay,az,ar,aw,ax⟩:=ad an (j.1 q a ak aj);cases t
 ·have b:=aq (j.2.2 rfl);go_wp2_with fail
  go_ret
  exact⟨2,rfl,b⟩
 ·have al:=aq (j.2.1 rfl);clear j E;go_wp2_with fail;refine(G _ al).mono ?_;rintro e z ⟨y,t,rfl,A⟩;cases t
  ·have b:=aq λa=>F y z (z.alloc a) A (aS _ a);go_wp2_with fail
   go_ret
   exact⟨2,rfl,b _⟩
  ·have aa:=aq λa=>HB y z (z.alloc a) A (aS _ a);clear A G F HB;go_wp2_with fail;refine(aa _).mono ?_;rintro e aB ⟨t,rfl,k⟩;cases t
   ·have b:=aq (k.1 rfl);go_wp2_with fail
    go_ret
    exact⟨3,rfl,b⟩
   ·obtain⟨i,aA,C,B⟩:=k.out.2 rfl;cases i
    ·have b:=aq (B rfl);clear C B k;go_wp2_with fail
     go_ret
     exact⟨0,rfl,b⟩
    ·have b:=aq (C rfl);clear C B k;go_wp2_with fail
     go_ret
     exact⟨1,rfl,b⟩
structure cI where
 b:Nat
 o:Nat
 pre:List Value
 post:List Value
 t:TypeId
def cI.own(b:Nat):cI:=⟨b,0,[],[],107⟩
def HB(a:cI)(room:Int)(tv lv mv:Value)(w:World):Prop:=(a.pre.length=a.o/\(a.t=107\/a.t=111))/\w.heap[a.b]?=some (.cells (a.pre++ .int .i64 room::tv::lv::mv::a.post).toArray a.t)
theorem HB.lt{a:cI}{room:Int}{tv lv mv:Value}{w:World}(c:HB a room tv lv mv w):a.b<w.heap.size:=(aI.1 c.2).1
theorem HB.cells{a:cI}{room:Int}{tv lv mv:Value}{w:World}(c:HB a room tv lv mv w):(w.cell? ⟨a.b,a.o,none⟩=some (.int .i64 room)/\w.cell? ⟨a.b,a.o+1,none⟩=some tv/\w.cell? ⟨a.b,a.o+2,none⟩=some lv/\w.cell? ⟨a.b,a.o+3,none⟩=some mv)/\∀j,w.frozen? ⟨a.b,j,none⟩=false:=by
 obtain⟨⟨d,_⟩,e⟩:=c;refine⟨⟨?_,?_,?_,?_⟩,λj=>?_⟩
 all_goals simp[World.cell?,World.frozen?,e,<-d]
theorem HB.ty{a:cI}{room:Int}{tv lv mv:Value}{w:World}(c:HB a room tv lv mv w):a.t≠9/\a.t≠109:=by
 rcases c.1.2 with b|b<;>rw[b]<;>decide
theorem DZ{l:List Value}{a:cI}{k:Nat}{room:Int}{tv lv mv v:Value}(b:a.pre.length=a.o)(c:l=(.int .i64 room::tv::lv::mv::a.post).set k v):(a.pre++ .int .i64 room::tv::lv::mv::a.post).set (a.o+k) v=a.pre++l:=by
 subst c;rw[<-b,List.set_append,if_neg (by omega),show a.pre.length+k-a.pre.length=k by omega]
theorem HB.set1{a:cI}{room:Int}{tv lv mv:Value}{w:World}(c:HB a room tv lv mv w)(v:Value):HB a room v lv mv (w.setCell ⟨a.b,a.o+1,none⟩ v):=by
 refine⟨c.1,?_⟩;have d:=DZ (k:=1) (room:=room) (tv:=tv) (lv:=lv) (mv:=mv) (v:=v) c.1.1 rfl;simp only[dy,dz]at d;simp[World.setCell,bQ,c.2,d]
theorem HB.set2{a:cI}{room:Int}{tv lv mv:Value}{w:World}(c:HB a room tv lv mv w)(v:Value):HB a room tv v mv (w.setCell ⟨a.b,a.o+2,none⟩ v):=by
 refine⟨c.1,?_⟩;have d:=DZ (k:=2) (room:=room) (tv:=tv) (lv:=lv) (mv:=mv) (v:=v) c.1.1 rfl;simp only[dy,dz]at d;simp[World.setCell,bQ,c.2,d]
theorem HB.set3{a:cI}{room:Int}{tv lv mv:Value}{w:World}(c:HB a room tv lv mv w)(v:Value):HB a room tv lv v (w.setCell ⟨a.b,a.o+3,none⟩ v):=by
 refine⟨c.1,?_⟩;have d:=DZ (k:=3) (room:=room) (tv:=tv) (lv:=lv) (mv:=mv) (v:=v) c.1.1 rfl;simp only[dy,dz]at d;simp[World.setCell,bQ,c.2,d]
theorem HB.kept{a:cI}{room:Int}{tv lv mv:Value}{w w':World}(c:HB a room tv lv mv w)(k:w'.heap[a.b]?=w.heap[a.b]?):HB a room tv lv mv w':=⟨c.1,k.trans c.2⟩
structure b9 (S:Nat->Prop) (w w':World):Prop where
 os:w'.os=w.os
 tape:w'.tape=w.tape
 output:w'.output=w.output
 size:w.heap.size<=w'.heap.size
 block:∀b,b<w.heap.size->¬S b->w'.heap[b]?=w.heap[b]?
theorem b9.refl(S:Nat->Prop)(w:World):b9 S w w:=⟨rfl,rfl,rfl,av _,λ_ _ _=>rfl⟩
theorem b9.trans{S T:Nat->Prop}{w w1 w2:World}(a:b9 S w w1)(k:b9 T w1 w2)(e:∀b,b<w.heap.size->T b->S b):b9 S w w2:=
 ⟨k.os.trans a.os,k.tape.trans a.tape,k.output.trans a.output,aF a.size k.size,λb c d=>(k.block b (aW c a.size) (λf=>d (e b c f))).trans (a.block b c d)⟩
theorem b9.mono{S T:Nat->Prop}{w w1:World}(a:b9 S w w1)(c:∀b,S b->T b):b9 T w w1:=⟨a.os,a.tape,a.output,a.size,λb d e=>a.block b d λk=>e (c b k)⟩
theorem bq{w w':World}(a:Below w.heap.size w w')(S:Nat->Prop):b9 S w w':=⟨a.os,a.tape,a.output,a.size,λb c _=>a.block b c⟩
theorem Ec{w w':World}{row:Option Nat}(a:w.grownBy w' row):b9 (λb=>row=some b) w w':=⟨a.os,a.tape,a.output,a.size,λb c d=>a.block b c λe=>d e.symm⟩
theorem bC(w:World)(q o:Nat)(v:Value):b9 (λb=>b=q) w (w.setCell ⟨q,o,none⟩ v):=
 ⟨rfl,rfl,rfl,by simp[World.setCell],λb _ c=>by
  have:¬q=b:=λa=>c a.symm
  simp[World.setCell,bQ,this]⟩
def mapBlock:Value->Option Nat
 | .map (some b)=>some b
 | _=>none
theorem wQ:Keyed Tryz.prog 9:=string_keyed underlying9
theorem sF(w:World):(zeroValue 3).run Tryz.prog w=.ok (.int .i64 0) w:=by kernel_rfl
def strCells(l:List ByteArray):List Value:=l.map .string
def sI(D:DataW Unit)(nm:List ByteArray):Prop:=∀s:ByteArray,(Maps.has D (.string s.data.toList)=true ↔ s∈nm)/\∀i:Nat,nm[i]?=some s->D.atKey (.string s.data.toList) (.lit (.int .i64 0))=.lit (.int .i64 i)
def ko(base:Nat)(nm:List ByteArray)(lv mv:Value)(w:World):Prop:=
 w.ownsRow base 9 1 lv nm.length (strCells nm)/\nm.Nodup/\
 ((mv=.map none/\nm=[]/\lv=.slice none 0 0)\/∃mb a,mv=.map (some mb)/\base<=mb/\w.ownsMap Tryz.prog 9 (plainElem Tryz.prog 3) mb nm.length a/\sI a nm/\lv.ownBlock≠some mb)
theorem ko.kept{base:Nat}{nm:List ByteArray}{lv mv:Value}{w w':World}{S:Nat->Prop}(m:ko base nm lv mv w)(k:b9 S w w')(n:∀b,lv.ownBlock=some b->¬S b)(o:∀b,mapBlock mv=some b->¬S b):ko base nm lv mv w':=by
 obtain⟨g,v,f⟩:=m;have u:w'.ownsRow base 9 1 lv nm.length (strCells nm):=by
  refine⟨g.1,?_⟩;rcases g.2 with⟨c,l⟩|⟨d,cap,j,c,q,a,e⟩
  ·exact aj ⟨c,l⟩
  ·exact ak ⟨d,cap,j,c,q,(k.block d (aI.1 a).1 (n d (by rw[c];rfl))).trans a,e⟩
 refine⟨u,v,?_⟩;rcases f with f|⟨mb,h,rfl,p,r,s,t⟩
 ·exact aj f
 ·refine ak ⟨mb,h,rfl,p,?_,s,t⟩;obtain⟨es,i,a,e⟩:=r;exact⟨es,i,(k.block mb (aI.1 a).1 (o mb rfl)).trans a,e⟩
end Go.Proofs.YtmmahddlcldmiaaGreat
