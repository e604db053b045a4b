/- Proved here: plain facts and contracts. No condition but what each names. -/
import Derived.Test.YtmmahddlcldmiaaGreatR01
import Derived.Test.YtmmahddlcldmiaaGreatR02
import Derived.Lib.SliceRun
import Derived.Deep.RegionLaw
import Derived.Laws.CopyRow
import Derived.Maps.RangeWalk
import Derived.WideKeyPair
import Derived.WideKeyEntry
namespace Go.Proofs.YtmmahddlcldmiaaGreat
open Go.RowKit Go.Proofs.Tryz
open Go.RowKit Go.Maps
set_option maxHeartbeats 2000000
set_option maxRecDepth 100000
theorem ey(s:aq)(w:ag)(b:s.size<=2048):ao 63 #[af s] w λe w'=>e=.returned (af s)/\am w w':=by
 go_enter func63,ntmps63;go_wp2_with (go_at_call 98;refine(Tryz.stringslite_Clone s w (by omega)).mono ?_;rintro e w' ⟨rfl,a⟩)
 go_ret
 exact⟨rfl,a⟩
theorem mh(a:ar)(pc:Nat)(w:ag):ao 89 #[ae a 0 pc] w λe w'=>e=.returned (ae none 0 0)/\w'=w:=by
 go_enter func89,ntmps89;go_wp2_with fail
 go_ret
 exact⟨rfl,rfl⟩
theorem rK(n:Nat)(p:List (Tm n))(len:Nat){w w1:ag}(a:w1.ownsRow w.heap.size 31 4 (ae (some ⟨w.heap.size,0,none⟩) len len) len (madeCells (Value.agg #[ab 0,ab 0,af .empty,ae none 0 0]).cells (len*4)).toList):uS n p len w.heap.size 0 [] w1:=by
 refine⟨rfl,?_,(λd c=>by cases c),rfl⟩;have b:(madeCells (Value.agg #[ab 0,ab 0,af .empty,ae none 0 0]).cells (len*4)).toList=gz (List.replicate len zA):=If len;rw[b]at a;unfold nL;simpa using a
theorem zJ(n:Nat)(ih:Qz n)(p:List (Tm n))(len:Nat)(M:Hid (p.length=len))(q po pc:Nat)(B:Nat)(w:ag)(ar:0<len)(az:len<=1048576)(X:q<B)(t:∀(i:Nat)(y:Tm n),p[i]?=some y->dH w q (po+i*4) n y/\In B w n y)(N:∀y∈p,aJ ⟨n,y⟩)(G:B<=w.heap.size):ao 89 #[ae (some ⟨q,po,none⟩) len pc] w λe w'=>∃l,e=.returned (ae (some ⟨w.heap.size,0,none⟩) len len)/\Hid (il n p w w' (some ⟨w.heap.size,0,none⟩) len l):=by
 obtain⟨Y,I,O,P,Q⟩:=bY gO;have ay:((len:Int)==0)=false:=by simp;omega
 go_enter func89,ntmps89;go_wp2_with (at_make;refine lD _ rfl _ _ 29 rfl w.heap.size 31 Y _ 4 underlying29 I O P _ _ _ _ len rfl rfl rfl rfl (by rw[Q];omega) (by unfold maxLen;omega) (av _) ?_;intro aa L d);have E:=ap (rK n p len L);have z:Hid (am w aa):=⟨d.os,d.tape,d.output,d.size,λk J=>d.block k J (by simp)⟩;clear L d I O P Q;go_wp2_with fail;go_loopw [14] (λi wr=>∃k:Nat,k<=len/\i=ab k/\Hid (am w wr/\∃l,uS n p len w.heap.size k l wr)) (λi _=>len-(intOf i).toNat)
 case atStart=>exact⟨0,by omega,rfl,z,[],E⟩
 case round=>
  obtain⟨k,J,rfl,C⟩:=hrel;obtain⟨f,l,c⟩:Hid (am w wr)/\∃l,Hid (uS n p len w.heap.size k l wr):=C.out;clear C;by_cases K:k<len
  ·obtain⟨x,j⟩:∃x,p[k]?=some x:=⟨p[k]'(by rw[M.out];exact K),aN _⟩;obtain⟨m,o⟩:=t k x j;have V:=ap j;have D:=ap (N x (aL j));replace m:=m.below (f.mono G) X;replace o:=o.below (f.mono G);have W:w.heap.size<wr.heap.size:=c.2.1.lt.2;have H:B<=wr.heap.size:=by omega
   clear t j N E z;cases n with
   | zero=>exact m.elim
   | succ n=>
   obtain⟨ad,ah,ai,aj⟩:=m
   have A:Hid (∀(a:ag),am wr a->ao 56 #[.agg #[ab x.1.1,ab x.1.2.1,af x.1.2.2,ae x.2.1.1 x.2.2.length x.2.1.2]] a λe w'=>∃y:Tm (n+1),e=.returned (dG (n+1) y)/\Hid (am a w'/\In w'.heap.size w' (n+1) y/\cD (λr=>a.heap.size<=r) (n+1) y/\aB (n+1) y (n+1) x=true)):=
    λa b=>ih x B a (o.below (b.mono H)) (aF H b.size) D
   clear ih o D;generalize x.2.2.length=aC at*;have aw:(0:Int)<=(k:Int):=by omega
   have ax:(k:Int)<(len:Int):=by omega
   have aA:q<wr.heap.size:=by omega
   go_wp2_with fail;refine(A _ (aS _ _)).mono ?_;rintro e a ⟨y,rfl,g⟩;have h:Hid (am wr a):=(aS _ _).trans (g.1.mono (by simp));have U:=ap (c.step K x V h y g.2.1 (g.2.2.1.mono λr u=>by simp at u;omega) g.2.2.2);have s:=ap (c.2.1.below h);have S:Hid (am w (jT a w.heap.size (k*4) (gK (n+1) y))):=by
    have b:=f.trans (h.mono (Nat.le_of_lt W));exact⟨b.os,b.tape,b.output,aF b.size (dT (bG _ _ _ _).symm),λr u=>(bm (by omega) _ _ _ _).trans (b.block r u)⟩
   obtain⟨v,R⟩:∃v,(l.map (λx=>(⟨n+1,x⟩:An))++List.replicate (len-k) zA)[k]?=some v:=⟨_,aN (by simp[c.out.1];omega)⟩;obtain⟨ak,al,an,aq⟩:=s.out.cells k v R;have au:=λZ=>s.free Z;have F:dG (n+1) y=.agg #[ab y.1.1,ab y.1.2.1,af y.1.2.2,ae y.2.1.1 y.2.2.length y.2.1.2]:=rfl;rw[F];clear A c f g h s ad ah ai aj R F;go_wp2_with fail;go_roundw
   case rel=>exact⟨k+1,by omega,by go_num,S,l++ [y],U⟩
   case measure=>simp[intOf];omega
  ·have T:=ap (c.done M (by omega) f (by unfold maxLen;omega));clear c t;go_wp2_with fail
   go_ret
   exact⟨l,rfl,T⟩
def Qy(n:Nat):Prop:=∀(p:List (Tm n))(a:ar)(pc B:Nat)(w:ag),(p=[]\/∃b o,a=some ⟨b,o,none⟩/\b<B/\∀(i:Nat)(y:Tm n),p[i]?=some y->dH w b (o+i*4) n y/\In B w n y)->p.length<=1048576->(∀y∈p,aJ ⟨n,y⟩)->B<=w.heap.size->
 ao 89 #[ae a p.length pc] w λe w'=>∃c d l,e=.returned (ae c p.length d)/\Hid (il n p w w' c d l)
theorem tF(n:Nat)(ih:Qz n):Qy n:=by
 intro c i pc g d a p q k;rcases a with a|⟨b,o,rfl,m,a⟩
 ·subst a;refine(mh i pc d).mono ?_;rintro e f ⟨rfl,rfl⟩;exact⟨none,0,[],rfl,aA _ _,rfl,av _,aM _,rfl,aj rfl⟩
 ·by_cases j:c.length=0
  ·have:c=[]:=bL j;subst this;refine(mh _ pc d).mono ?_;rintro e f ⟨rfl,rfl⟩;exact⟨none,0,[],rfl,aA _ _,rfl,av _,aM _,rfl,aj rfl⟩
  ·refine(zJ n ih c c.length rfl b o pc g d (by omega) p m a q k).mono ?_;rintro e f ⟨l,rfl,h⟩;exact⟨_,_,l,rfl,h⟩
theorem GI{w w1:ag}{a b:Obj}(c:Below ((w.alloc a).alloc b).drew.heap.size ((w.alloc a).alloc b).drew w1):am w w1/\w.heap.size<w1.heap.size/\w.heap.size+1<w1.heap.size:=by
 have d:am w ((w.alloc a).alloc b).drew:=((aS _ _).alloc (by simp) _).drew;have f:=c.size;have e:((w.alloc a).alloc b).drew.heap.size=w.heap.size+2:=by simp[World.drew]
 exact⟨d.trans (c.mono d.size),by omega,by omega⟩
theorem ig{B:Nat}{w w1:ag}(a:Below B w w1):∀b o,b<B->w1.frozen? ⟨b,o,none⟩=w.frozen? ⟨b,o,none⟩:=λb o c=>a.frozen (p:=⟨b,o,none⟩) c
theorem Jr{w w':ag}{v0 v1 v2 v3 e f g h:au}{t i:TypeId}(d:Below ((w.alloc (.cells #[v0,v1,v2,v3] t)).alloc (.cells #[e,f,g,h] i)).drew.heap.size ((w.alloc (.cells #[v0,v1,v2,v3] t)).alloc (.cells #[e,f,g,h] i)).drew w'):(ai w' w.heap.size 0 v0/\ai w' w.heap.size 1 v1/\ai w' w.heap.size 2 v2/\ai w' w.heap.size 3 v3)/\ w'.cell? ⟨w.heap.size+1,0,none⟩=some e/\w'.cell? ⟨w.heap.size+1,1,none⟩=some f/\w'.cell? ⟨w.heap.size+1,2,none⟩=some g/\w'.cell? ⟨w.heap.size+1,3,none⟩=some h/\ w'.frozen? ⟨w.heap.size+1,0,none⟩=false/\w'.frozen? ⟨w.heap.size+1,1,none⟩=false/\w'.frozen? ⟨w.heap.size+1,2,none⟩=false/\w'.frozen? ⟨w.heap.size+1,3,none⟩=false:=by
 have a:=λo=>d.cell (p:=⟨w.heap.size,o,none⟩) (by simp[World.drew];try omega);have b:=λo=>d.cell (p:=⟨w.heap.size+1,o,none⟩) (by simp[World.drew];try omega);have c:=λo=>d.frozen (p:=⟨w.heap.size+1,o,none⟩) (by simp[World.drew];try omega);exact⟨⟨(a 0).trans (by simp[go_sem]),(a 1).trans (by simp[go_sem]),(a 2).trans (by simp[go_sem]),(a 3).trans (by simp[go_sem])⟩,(b 0).trans (by simp[go_sem]),(b 1).trans (by simp[go_sem]),(b 2).trans (by simp[go_sem]),(b 3).trans (by simp[go_sem]),(c 0).trans (by simp[go_sem]),(c 1).trans (by simp[go_sem]),(c 2).trans (by simp[go_sem]),(c 3).trans (by simp[go_sem])⟩
theorem DG{w1 w2:ag}{q:Nat}{e f g h:au}(a:q<w1.heap.size)(d:am w1 w2)(k:ai w1 q 0 e/\ai w1 q 1 f/\ai w1 q 2 g/\ai w1 q 3 h/\ w1.frozen? ⟨q,0,none⟩=false/\w1.frozen? ⟨q,1,none⟩=false/\w1.frozen? ⟨q,2,none⟩=false/\w1.frozen? ⟨q,3,none⟩=false):ai w2 q 0 e/\ai w2 q 1 f/\ai w2 q 2 g/\ai w2 q 3 h/\ w2.frozen? ⟨q,0,none⟩=false/\w2.frozen? ⟨q,1,none⟩=false/\w2.frozen? ⟨q,2,none⟩=false/\w2.frozen? ⟨q,3,none⟩=false:=by
 obtain⟨i,j,l,m,d0,d1,d2,d3⟩:=k;have b:=aw d;have c:=ig d;exact⟨(b _ _ a).trans i,(b _ _ a).trans j,(b _ _ a).trans l,(b _ _ a).trans m,(c _ _ a).trans d0,(c _ _ a).trans d1,(c _ _ a).trans d2,(c _ _ a).trans d3⟩
theorem il.box{n:Nat}{p:List (Tm n)}{w w1 w2:ag}{a:ar}{c:Nat}{l:List (Tm n)}(r:il n p w1 w2 a c l)(h:am w w1)(f:w.heap.size+1<w1.heap.size)(v0 v1 v2 v3:au):il n p w (df w2 (w.heap.size+1) 0 v0 v1 v2 v3) a c l:=by
 obtain⟨s,t,u,v,x,d⟩:=r;have e:=h.trans (s.mono h.size);have F:=h.size;refine⟨⟨e.os,e.tape,e.output,aF e.size (dT (bG _ _ _ _).symm),λj f=>(bm (by omega) _ _ _ _).trans (e.block j f)⟩,t,u,v,x,?_⟩;rcases d with d|⟨b,o,q,i,y,d⟩
 ·exact aj d
 ·refine ak ⟨b,o,q,⟨by omega,i.2.1,λB=>?_,i.2.2.2⟩,by rw[bG];exact y,λA E z=>?_⟩
  ·have k:=i.2.2.1 B;unfold World.frozen? at k ⊢;rw[bm (w:=w2) (g:=w.heap.size+1) (b:=b) (o:=0) (by omega) v0 v1 v2 v3];exact k
  obtain⟨C,D,m⟩:=d A E z;refine⟨C.block (bm (by omega) _ _ _ _),?_,m.mono λj f=>by omega⟩;rw[bG];exact In.off (λj f=>bm (by omega) _ _ _ _) m D
theorem mW(x:Nd)(a:cQ x=true):x.2.2.1<=8:=by
 by_cases b:x.1.1=4
 ·simp[cQ,b]at a;omega
 ·have:=(e9 x a).2.2.2.2 b;omega
theorem sY(x:Nd)(a:cQ x=true):x.1.2.2.size<=8:=by
 by_cases c:x.1.1=2
 ·simp[cQ,c,ex,rk]at a;omega
 ·have b:=(e9 x a).1 c;have e:x.1.2.2.data.toList=[]:=by rw[cI]at b;exact b
  have:x.1.2.2.size=0:=by
   have d:x.1.2.2.size=x.1.2.2.data.toList.length:=by rw[iR];rfl
   rw[d,e];rfl
  omega
theorem sU(n:Nat)(k g:Int)(s:aq)(a:ar)(len pc:Nat)(p:List (Tm n))(w:ag)(F:s.size<=2048)(m:Hid (∀w1,am w w1->ao 89 #[ae a len pc] w1 λe w'=>∃b c l,e=.returned (ae b len c)/\Hid (il n p w1 w' b c l))):ao 56 #[.agg #[ab k,ab g,af s,ae a len pc]] w λe w'=>∃b c l,e=.returned (.agg #[ab k,ab g,af s,ae b len c])/\Hid (il n p w w' b c l):=by
 go_enter func56,ntmps56;go_wp2_with fail;go_region_held3 (λw'=>w'.cell? ⟨w.heap.size,0,none⟩=some (ab k)/\w'.cell? ⟨w.heap.size,1,none⟩=some (ab g)/\w'.cell? ⟨w.heap.size,2,none⟩=some (af s)/\w'.cell? ⟨w.heap.size,3,none⟩=some (ae a len pc)) (go_keep) ((first|(go_at_call 63;refine(ey s _ F).mono ?_;rintro e w1 ⟨rfl,i⟩;have f:=ap (GI i);have d:=ap (Jr i);have q:=d.1.1;have r:=d.1.2.1;have t:=d.1.2.2.1;have u:=d.1.2.2.2;clear i)|(go_at_call 89;refine(m _ f.1).mono ?_;rintro e G ⟨b,c,l,rfl,h⟩;have j:=ap (DG f.2.2 h.1 d.2);obtain⟨B,C,D,E,d0,d1,d2,d3⟩:=j.out;obtain⟨x,y,z,A⟩:=oF f.2.1 h.1 d.1)));have o:=ap (h.box f.1 f.2.2 (ab k) (ab g) (af s) (ae b len c));clear h f d j q r t u x y z A;go_wp2_with fail;exact ay (v:=.agg #[ab k,ab g,af s,ae b len c]) (by simp[results,results56,go_sem,B,C,D,E]) rfl ⟨b,c,l,rfl,o⟩
theorem iL(n:Nat):Qz n:=by
 induction n with
 | zero=>intro x k t j;exact j.elim
 | succ n ih=>
  intro x k t j i s;have E:=j;obtain⟨⟨G,H,D,K,J⟩,g⟩:=E;have r:=s (bO n x) (by simp[aC,bO]);have I:x.2.2.length<=8:=mW (bO n x) r;have C:x.1.2.2.size<=2048:=by have:=sY (bO n x) r;simp only[bO]at this;omega
  refine(sU n x.1.1 x.1.2.1 x.1.2.2 x.2.1.1 x.2.2.length x.2.1.2 x.2.2 t C ?_).mono ?_
  ·intro F h;refine tF n ih x.2.2 x.2.1.1 x.2.1.2 k F ?_ (by omega) (λd c=>bj n x d s c) (aF i h.size);rcases g with g|⟨b,o,f,m,g⟩
   ·exact aj g
   ·exact ak ⟨b,o,f,m,λe d c=>⟨(g e d c).1.below (h.mono i) m,(g e d c).2.below (h.mono i)⟩⟩
  ·rintro f L ⟨v,w,l,rfl,u⟩;obtain⟨h,y,z,A,B,a⟩:=u;refine⟨(x.1,(v,w),l),by rw[<-y];rfl,h,⟨⟨G,H,D,z,A⟩,?_⟩,?_,?_⟩
   ·rcases a with a|⟨b,o,f,p,q,a⟩
    ·exact aj a
    ·exact ak ⟨b,o,f,q,λe d c=>⟨(a e d c).1,(a e d c).2.1⟩⟩
   ·rcases a with a|⟨b,o,f,p,q,a⟩
    ·exact aj a
    ·exact ak ⟨b,o,f,p.1,λe d c=>(a e d c).2.2⟩
   ·simp only[aB];simp[B]
def qu:aq:=⟨#[115,101,108,102]⟩
def xg:aq:=⟨#[97,100,100]⟩
def Dj:aq:=⟨#[112,117,116]⟩
def p9(N:Nat)(x:Tm N):Int:=(gK N x).1.2.1
def uF(n:Nat)(p:List (Tm n))(s:aq)(k:Nat):Bool:=
 decide (p.length=1+k) && match p[0]? with
  | some a=>cg ⟨n,a⟩==2 && (gK n a).1.2.2.toList==s.toList
  | none=>false
def cZ{c β:Type}(f:c->Option β):List c->Option (List β)
 | []=>some []
 | a::p=>(f a).bind λb=>(cZ f p).map λl=>b::l
def b8(k a:Int)(N:Nat):Tm (N+1):=((k,a,.empty),(none,0),[])
def AH(N:Nat)(a c:Tm N):Bool:=cg ⟨N,a⟩==1 && cg ⟨N,c⟩==1 && rk (p9 N a+p9 N c) (-1099511627776) 1099511627776
def uw(N:Nat)(a c:Tm N):Option (Tm (N+1)):=if AH N a c then some (b8 1 (p9 N a+p9 N c) N)else none
def dx(N:Nat)(l:List (Tm N)):Tm (N+1):=((4,0,.empty),(none,0),l)
def vl(m:Nat)(b:List (Tm m))(self:Int):(n:Nat)->Tm n->Option (Tm (m+n))
 | 0,_=>none
 | n+1,x=>
  if x.1.1=5 then (b[x.1.2.1.toNat]?).bind λy=>if cg ⟨m,y⟩=6 then none else some (bf (m+n+1) m y)
  else if x.1.1=6 then none
  else if x.1.1=4 then
   if uF n x.2.2 qu 0 then some (b8 3 self (m+n))
   else if uF n x.2.2 xg 2 then
    (x.2.2[1]?).bind λa=>(x.2.2[2]?).bind λc=>(vl m b self n a).bind λa=>(vl m b self n c).bind λc=>uw (m+n) a c
   else if uF n x.2.2 Dj 1 then
    (x.2.2[1]?).bind λa=>if aT n a then some (bf (m+n+1) n a)else none
   else (cZ (λy=>vl m b self n y) x.2.2).map (dx (m+n))
  else some (bf (m+n+1) (n+1) x)
theorem rC{e β:Type}(f:e->Option β):(p:List e)->(l:List β)->cZ f p=some l->l.length=p.length/\∀(i:Nat)(a:e)(y:β),p[i]?=some a->l[i]?=some y->f a=some y
 | [],l,b=>by simp[cZ]at b;subst b;exact⟨rfl,λi a y c=>by simp at c⟩
 | a::p,l,b=>by
  simp only[cZ]at b;obtain⟨y,m,b⟩:=bI.1 b;obtain⟨r,k,rfl⟩:=cG.1 b;obtain⟨h,j⟩:=rC f p r k;refine⟨by simp[h],λi g n c d=>?_⟩;cases i with
  | zero=>
   simp at c d;subst c d;exact m
  | succ i=>exact j i g n (by simpa using c) (by simpa using d)
theorem mQ{c β:Type}(f:c->Option β):(p:List c)->(i:Nat)->(a:c)->p[i]?=some a->f a=none->cZ f p=none
 | [],i,a,h,_=>by simp at h
 | b::p,0,a,h,k=>by
  simp at h;subst h;simp[cZ,k]
 | b::p,i+1,a,h,k=>by
  simp only[cZ];rw[mQ f p i a (by simpa using h) k];simp
theorem xO{b β:Type}(f:b->Option β)(g:b->β):(p:List b)->(∀a∈p,f a=some (g a))->cZ f p=some (p.map g)
 | [],_=>rfl
 | a::p,h=>by simp[cZ,h a (by simp),xO f g p λx c=>h x (bW _ c)]
theorem zU{b β c:Type}(f:b->List c)(g:β->List c)(K:Nat):(p:List b)->(l:List β)->l.length=p.length->(∀(i:Nat)(a:b)(y:β),p[i]?=some a->l[i]?=some y->(g y).length<=K*(f a).length)->(l.flatMap g).length<=K*(p.flatMap f).length
 | [],[],_,_=>by simp
 | [],_::_,h,_=>by simp at h
 | _::_,[],h,_=>by simp at h
 | a::p,y::l,h,k=>by
  have j:=k 0 a y rfl rfl;have m:=zU f g K p l (by simpa using h) λi a y d e=>k (i+1) a y (by simpa using d) (by simpa using e);simp only[bP,bz];rw[Nat.mul_add];omega
theorem pu:(N n:Nat)->n<=N->(x:Tm n)->(aC N (bf N n x)).length<=(aC n x).length
 | 0,0,_,_=>av _
 | _+1,0,_,_=>by simp[bf,aC]
 | 0,n+1,h,_=>by omega
 | N+1,n+1,h,x=>by
  have:=zU (λy=>aC n y) (λy=>aC N y) 1 x.2.2 (x.2.2.map λy=>bf N n y) (by simp) λi a y c b=>by
   simp[c]at b;subst b;rw[Nat.one_mul];exact pu N n (by omega) a
  simp only[aC,bf,bA];omega
theorem vQ{a K:Nat}(b:1<=K):a<=K*a:=Nat.le_mul_of_pos_left a b
theorem B7{d e:Type}(f:d->List e)(p:List d)(a:d)(c:a∈p):(f a).length<=(p.flatMap f).length:=by
 induction p with
 | nil=>cases c
 | cons b p ih=>
  simp only[bP,bz];rcases cY.1 c with rfl|c
  ·omega
  ·have:=ih c;omega
theorem Dh(m:Nat)(b:List (Tm m))(self:Int)(K:Nat)(f:1<=K)(q:∀y∈b,(aC m y).length<=K):(n:Nat)->(x:Tm n)->(o:Tm (m+n))->vl m b self n x=some o->(aC (m+n) o).length<=K*(aC n x).length
 | 0,_,_,d=>by simp[vl]at d
 | n+1,x,o,d=>by
  have one:∀k r,(aC (m+n+1) (b8 k r (m+n))).length<=K*(aC (n+1) x).length:=λk r=>by
   have:1*1<=K*(aC (n+1) x).length:=Nat.mul_le_mul f (by simp[aC]);simpa [aC,b8]using this
  have up:∀(y:Tm n),y∈x.2.2->K*(aC n y).length<=K*(aC (n+1) x).length:=λy j=>by
   have:=B7 (λy=>aC n y) x.2.2 y j;exact Nat.mul_le_mul_left K (by simp only[aC,bA]at this ⊢;omega)
  simp only[vl]at d;split at d
  ·obtain⟨y,j,d⟩:=bI.1 d;split at d
   ·cases d
   ·obtain rfl:=az d;have e:=pu (m+n+1) m (by omega) y;have g:=q y (aL j);have h:K*1<=K*(aC (n+1) x).length:=Nat.mul_le_mul_left K (by simp[aC]);show (aC (m+n+1) _).length<=_;omega
  ·split at d
   ·cases d
   ·split at d
    ·split at d
     ·obtain rfl:=az d;exact one _ _
     ·split at d
      ·obtain⟨a,p,d⟩:=bI.1 d;obtain⟨c,A,d⟩:=bI.1 d;obtain⟨v,z,d⟩:=bI.1 d;obtain⟨w,B,d⟩:=bI.1 d;unfold uw at d;split at d
       ·obtain rfl:=az d;exact one _ _
       ·cases d
      ·split at d
       ·obtain⟨a,p,d⟩:=bI.1 d;split at d
        ·obtain rfl:=az d;have e:=pu (m+n+1) n (by omega) a;have g:=up a (aL p);have h:=vQ (a:=(aC n a).length) f;show (aC (m+n+1) _).length<=_;omega
        ·cases d
       ·obtain⟨l,u,rfl⟩:=cG.1 d;obtain⟨e,g⟩:=rC _ _ _ u;have h:=zU (λy=>aC n y) (λy=>aC (m+n) y) K x.2.2 l e λi a y s t=>Dh m b self K f q n a y (g i a y s t);show (aC (m+n+1) (dx (m+n) l)).length<=_;simp only[aC,dx,bA];rw[Nat.mul_add];omega
    ·obtain rfl:=az d;have e:=pu (m+n+1) (n+1) (by omega) x;have h:=vQ (a:=(aC (n+1) x).length) f;show (aC (m+n+1) _).length<=_;omega
theorem kX:(n:Nat)->(x:Tm n)->(m:Nat)->(y:Tm m)->aB n x m y=true->(aC n x).length=(aC m y).length
 | 0,_,_,_,h=>by simp[aB]at h
 | _+1,_,0,_,h=>by simp[aB]at h
 | n+1,x,m+1,y,h=>by
  obtain⟨f,e⟩:=bQ h;have key:∀(p:List (Tm n))(q:List (Tm m)),aG (λa b=>aB n a m b) p q=true->(p.flatMap λy=>aC n y).length=(q.flatMap λy=>aC m y).length:=by
   intro p
   induction p with
   | nil=>intro q d;cases q with
    | nil=>rfl
    | cons _ _=>simp[aG]at d
   | cons a p ih=>intro q d;cases q with
    | nil=>simp[aG]at d
    | cons c q=>
     simp only[aG,aK]at d;simp only[bP,bz];rw[kX n a m c d.1,ih q d.2]
  simp only[aC,bA];rw[key _ _ e]
theorem bM{n:Nat}{x:Tm n}:bJ n x=0 ↔ cr n x=true/\fU n x<=12/\sz n x<=200:=by
 rw[<-gR];unfold xH;constructor
 ·intro a;split at a
  ·rename_i c;split at a
   ·cases a
   ·rename_i f;exact⟨c,by omega,by omega⟩
  ·cases a
 ·rintro ⟨b,d,e⟩;rw[if_pos b,if_neg (by omega)]
theorem Gb:(n:Nat)->(x:Tm n)->aJ ⟨n,x⟩->((aC n x).length:Int)<=sz n x+1
 | 0,_,h=>(dA h).elim
 | n+1,x,h=>by
  have c:=e9 (bO n x) (h (bO n x) (by simp[aC,bO]));by_cases a:x.1.1=4
  ·have key:∀l:List (Tm n),(∀y∈l,aJ ⟨n,y⟩)->((l.flatMap λy=>aC n y).length:Int)<=(l.map λy=>1+sz n y).sum:=by
     intro l
     induction l with
     | nil=>intro _;simp
     | cons y l ih=>
      intro b;have g:=Gb n y (b y (by simp));have i:=ih λf e=>b f (bW _ e);simp only[bP,bz,aV,bR];omega
   have:=key x.2.2 λy d=>bj n x y h d;simp only[aC,bA,sz,if_pos a];omega
  ·have:x.2.2=[]:=bL (c.2.2.2.2 a);simp[aC,this,sz,a]
theorem oG{n:Nat}{x:Tm n}(a:bJ n x=0):(aC n x).length<=201:=by
 obtain⟨b,_,c⟩:=bM.1 a;have:=Gb n x (aU.2 b);omega
theorem iJ{m:Nat}{b:List (Tm m)}(a:gJ m b=true):b.length=4/\∀y∈b,bJ m y=0/\aJ ⟨m,y⟩/\(cg ⟨m,y⟩=6\/aT m y=true):=by
 unfold gJ at a;simp only[aK,cw,cJ]at a;refine⟨a.1,λy c=>?_⟩;have:=a.2 y c;unfold Ck at this;simp only[aK,iT,cv]at this;refine⟨this.1,aU.2 (bM.1 this.1).1,?_⟩;rw[fR];exact this.2
theorem qJ{N n:Nat}(e:n<=N)(x:Tm n)(c:aJ ⟨n,x⟩):aJ ⟨N,bf N n x⟩:=by
 cases n with
 | zero=>exact(dA c).elim
 | succ n=>
  obtain⟨a,rfl⟩:∃a,N=a+1:=⟨N-1,by omega⟩;intro d b;simp only at b;rw[nW a n (by omega) x]at b;exact c d b
theorem wH{N:Nat}{x:Tm (N+1)}(c:cQ (bO N x)=true)(k:∀y∈x.2.2,aJ ⟨N,y⟩):aJ ⟨N+1,x⟩:=by
 intro b a;simp only[aC,cY,iw]at a;rcases a with rfl|⟨y,d,a⟩
 ·exact c
 ·exact k y d b a
theorem xd(m:Nat)(b:List (Tm m))(self:Int)(k:1<=self/\self<=99)(i:∀y∈b,aJ ⟨m,y⟩):(n:Nat)->(x:Tm n)->aJ ⟨n,x⟩->(g:Tm (m+n))->vl m b self n x=some g->aJ ⟨m+n,g⟩
 | 0,_,_,_,d=>by simp[vl]at d
 | n+1,x,hr,g,d=>by
  have r:=hr (bO n x) (by simp[aC,bO]);have B:x.2.2.length<=8:=mW (bO n x) r;simp only[vl]at d;split at d
  ·obtain⟨y,e,d⟩:=bI.1 d;split at d
   ·cases d
   ·obtain rfl:=az d;exact qJ (N:=m+n+1) (by omega) y (i y (aL e))
  ·split at d
   ·cases d
   ·split at d
    ·split at d
     ·obtain rfl:=az d;exact wH (N:=m+n) (by simp[cQ,b8,bO,rk,k]) (by intro y e;cases e)
     ·split at d
      ·obtain⟨a,h,d⟩:=bI.1 d;obtain⟨c,z,d⟩:=bI.1 d;obtain⟨u,w,d⟩:=bI.1 d;obtain⟨v,A,d⟩:=bI.1 d;unfold uw at d;split at d
       ·rename_i o;obtain rfl:=az d;simp only[AH,aK]at o;exact wH (N:=m+n) (by simp[cQ,b8,bO,o.2]) (by intro y e;cases e)
       ·cases d
      ·split at d
       ·obtain⟨a,h,d⟩:=bI.1 d;split at d
        ·obtain rfl:=az d;exact qJ (N:=m+n+1) (by omega) a (bj n x a hr (aL h))
        ·cases d
       ·obtain⟨l,t,rfl⟩:=cG.1 d;obtain⟨p,q⟩:=rC _ _ _ t;refine wH (N:=m+n) ?_ λy e=>?_
        ·have:(l.length:Int)<=8:=by omega
         simp[cQ,dx,bO,this]
        ·obtain⟨f,j⟩:=dp e;have s:f<x.2.2.length:=by rw[<-p];exact(aZ.1 j).1
         exact xd m b self k i n x.2.2[f] (bj n x _ hr (iv _)) y (q f _ y (aN s) j)
    ·obtain rfl:=az d;exact qJ (N:=m+n+1) (by omega) x hr
def Gk(a:Int)(bd:Bool)(self:Int):Int:=if a=0 then if bd then if 1<=self/\self<=99 then 0 else 1 else 5 else a
def oE{N:Nat}(E:Int)(o:Option (Tm N)):Option (Tm N):=if E=0 then o.bind λa=>if bJ N a=0 then some a else none else none
def Gj{N:Nat}(E:Int)(o:Option (Tm N)):Int:=if E=0 then if o.isSome then 0 else 7 else E
theorem F6{n:Nat}{p:List (Tm n)}{s:aq}{k:Nat}(a:p.length≠1+k):uF n p s k=false:=by simp[uF,a]
theorem Pg{n:Nat}{p:List (Tm (n+1))}{s:aq}{k:Nat}{y:Tm (n+1)}(a:p.length=1+k)(b:p[0]?=some y):uF (n+1) p s k=(y.1.1==2 && y.1.2.2.toList==s.toList):=by
 simp[uF,a,b,cg,gK,bO]
theorem Hu(a:ar)(len pc:Nat)(s:aq)(k:Nat)(w:ag)(f:k<=8)(c:len≠1+k):ao 206 #[ae a len pc,af s,ab k] w λe w'=>e=.returned (.bool false)/\w'=w:=by
 have d:((len:Int)==1+(k:Int))=false:=by simp;omega
 have b:IntKind.i64.wrap (1+(k:Int))=1+(k:Int):=by rw[IntKind.wrap];simp[IntKind.bits,IntKind.signed];omega
 go_enter func206,ntmps206;go_wp2_with fail
 go_ret
 exact⟨rfl,rfl⟩
theorem Ht(a po len pc:Nat)(s:aq)(k:Nat)(b:Int)(c:aq)(w:ag)(l:len<=8)(j:k<=8)(g:len=1+k)(c0:ai w a po (ab b))(d:ai w a (po+2) (af c)):ao 206 #[ae (some ⟨a,po,none⟩) len pc,af s,ab k] w λe w'=>e=.returned (.bool (b==2 && c.toList==s.toList))/\w'=w:=by
 have h:((len:Int)==1+(k:Int))=true:=by simp;omega
 have f:IntKind.i64.wrap (1+(k:Int))=1+(k:Int):=by rw[IntKind.wrap];simp[IntKind.bits,IntKind.signed];omega
 have i:(0:Int)<(len:Int):=by omega
 cases hx:b==2
 ·go_enter func206,ntmps206;go_wp2_with fail
  go_ret
  exact⟨rfl,rfl⟩
 ·go_enter func206,ntmps206;go_wp2_with fail
  go_ret
  exact⟨rfl,rfl⟩
theorem Ee(n:Nat)(p:List (Tm n))(a:ar)(pc B:Nat)(s:aq)(k:Nat)(w:ag)(d:fZ B w n p a)(m:p.length<=8)(h:k<=8):ao 206 #[ae a p.length pc,af s,ab k] w λe w'=>e=.returned (.bool (uF n p s k))/\w'=w:=by
 by_cases c:p.length=1+k
 ·rcases d with d|⟨b,o,rfl,u,d⟩
  ·rw[d]at c;simp at c;omega
  ·obtain⟨f,i⟩:∃f,p[0]?=some f:=⟨p[0]'(by omega),aN _⟩;obtain⟨g,t⟩:=d 0 f i;cases n with
   | zero=>exact g.elim
   | succ n=>
    rw[Pg c i];obtain⟨j,q,l,r⟩:=g;exact Ht b o p.length pc s k f.1.1 f.1.2.2 w m h c (by simpa using j) (by simpa using l)
 ·rw[F6 c];exact Hu a p.length pc s k w h c
def kB(N:Nat)(o:Option (Tm N))(w:ag)(e:Ending)(w':ag):Prop:=
 ∃(a:Tm N)(b:Bool),e=.returned (.tuple #[dG N a,.bool b])/\Hid (am w w'/\In w'.heap.size w' N a/\cD (λd=>w.heap.size<=d) N a/\b=o.isSome/\∀c,o=some c->aB N a N c=true)
def OM(m:Nat)(b:List (Tm m))(self:Int)(n:Nat):Prop:=∀(x:Tm n)(a:ar)(c B:Nat)(w:ag),In B w n x->aJ ⟨n,x⟩->fZ B w m b a->B<=w.heap.size->
 ao 189 #[.agg #[ae a 4 c,ab self],dG n x] w (kB (m+n) (vl m b self n x) w)
def OP{N:Nat}(o:Option (Tm N))(w:ag)(e:Ending)(w':ag):Prop:=
 ∃(c:Int)(b:Bool),e=.returned (.tuple #[ab c,.bool b])/\Hid (am w w'/\b=(o.isSome && o.all λa=>cg ⟨N,a⟩==1)/\∀a,o=some a->c=p9 N a)
theorem Ev{N:Nat}{o:Option (Tm (N+1))}{w w1 w2:ag}{y:Tm (N+1)}{r:Bool}(f:am w w2)(d:am w1 w2/\In w2.heap.size w2 (N+1) y/\cD (λq=>w1.heap.size<=q) (N+1) y/\r=o.isSome/\∀a,o=some a->aB (N+1) y (N+1) a=true)(c:Bool)(g:c=(r && y.1.1==1)):am w w2/\c=(o.isSome && o.all λa=>cg ⟨N+1,a⟩==1)/\∀a,o=some a->y.1.2.1=p9 (N+1) a:=by
 obtain⟨_,_,_,e,b⟩:=d;refine⟨f,?_,λa h=>?_⟩
 ·rw[g,e];cases ho:o with
  | none=>rfl
  | some a=>
   have:=(bQ (b a ho)).1;simp[cg,this]
 ·have:=(bQ (b a h)).1;simp[p9,gK,bO,this]
theorem Jq{w w':ag}{a b:Obj}(d:Below ((w.alloc a).alloc b).heap.size ((w.alloc a).alloc b) w'):am w w':=by
 have c:am w ((w.alloc a).alloc b):=(aS _ _).alloc (by simp) _;exact c.trans (d.mono c.size)
theorem tS(N:Nat)(o:Option (Tm (N+1)))(a:ar)(c:Nat)(self:Int)(k l:Int)(m:aq)(xa:ar)(n xc:Nat)(w:ag)(i:Hid (∀w1,am w w1->ao 189 #[.agg #[ae a 4 c,ab self],.agg #[ab k,ab l,af m,ae xa n xc]] w1 (kB (N+1) o w1))):ao 210 #[.agg #[ae a 4 c,ab self],.agg #[ab k,ab l,af m,ae xa n xc]] w (OP o w):=by
 go_enter func210,ntmps210;go_wp2_with fail;refine(i _ ((aS _ _).alloc (by simp) _)).mono ?_;rintro s f ⟨d,q,rfl,e⟩;have HB:Hid (am w f):=Jq e.1;have j:dG (N+1) d=.agg #[ab d.1.1,ab d.1.2.1,af d.1.2.2,ae d.2.1.1 d.2.2.length d.2.1.2]:=rfl;rw[j];clear j i;have h:=λr p=>ap (Ev HB e r p);clear HB e;have g:Hid (∀o:Obj,am w f->am w (f.alloc o).drew):=λo b=>(b.alloc b.size o).drew;cases q
 ·go_wp2_with fail;go_region;go_wp2_with fail
  go_ret2
  have b:=(h false rfl).out;exact⟨_,_,rfl,g _ b.1,b.2⟩
 ·go_wp2_with fail;go_region;go_wp2_with fail
  go_ret2
  have b:=(h _ rfl).out;exact⟨_,_,rfl,g _ b.1,b.2⟩
def PV{N:Nat}(o:Option (Tm N)):Prop:=∀a,o=some a->cg ⟨N,a⟩=1-> -1099511627776<=p9 N a/\p9 N a<=1099511627776
def xG{N:Nat}(b d:Option (Tm N)):Option (Tm (N+1)):=b.bind λa=>d.bind λc=>uw N a c
theorem NY{N:Nat}{a d:Option (Tm N)}(b:(a.isSome && a.all λe=>cg ⟨N,e⟩==1)=false):xG a d=none:=by
 cases a with
 | none=>rfl
 | some f=>
  simp at b;cases d with
  | none=>rfl
  | some c=>simp[xG,uw,AH,b]
theorem LR{N:Nat}{d a:Option (Tm N)}(b:(a.isSome && a.all λe=>cg ⟨N,e⟩==1)=false):xG d a=none:=by
 cases d with
 | none=>rfl
 | some f=>
  cases a with
  | none=>rfl
  | some c=>
   simp at b;simp[xG,uw,AH,b]
theorem LS{N:Nat}{b d:Option (Tm N)}{e v:Int}(i:true=(b.isSome && b.all λa=>cg ⟨N,a⟩==1))(j:true=(d.isSome && d.all λa=>cg ⟨N,a⟩==1))(k:∀a,b=some a->e=p9 N a)(l:∀a,d=some a->v=p9 N a)(m:PV b)(n:PV d):xG b d=(if -1099511627776<=e+v/\e+v<=1099511627776 then some (b8 1 (e+v) N)else none)/\(-1099511627776<=e/\e<=1099511627776)/\(-1099511627776<=v/\v<=1099511627776):=by
 cases b with
 | none=>simp at i
 | some f=>
  cases d with
  | none=>simp at j
  | some c=>
   have g:cg ⟨N,f⟩=1:=by simpa using i.symm
   have h:cg ⟨N,c⟩=1:=by simpa using j.symm
   rw[k f rfl,l c rfl];refine⟨?_,m f rfl g,n c rfl h⟩;simp[xG,uw,AH,g,h,rk]
theorem jP:dN 0:=by simp[dN]
theorem lS(N:Nat)(k a:Int)(b:dN k)(c:dN a)(B:Nat)(w:ag)(P:aO):In B w (N+1) (b8 k a N)/\cD P (N+1) (b8 k a N):=
 ⟨⟨⟨b,c,aM _,aM _,aM _⟩,aj rfl⟩,aj rfl⟩
theorem yf(N:Nat)(k a:Int):aB (N+1) (b8 k a N) (N+1) (b8 k a N)=true:=dt rfl rfl
theorem kZ{N:Nat}{w w':ag}(a:am w w'):kB (N+1) none w (.returned (.tuple #[.agg #[ab 0,ab 0,af .empty,ae none 0 0],.bool false])) w':=
 ⟨b8 0 0 N,false,rfl,a,(lS N 0 0 jP jP _ _ (λ_=>True)).1,(lS N 0 0 jP jP 0 w _).2,rfl,λc b=>by cases b⟩
theorem zg{N:Nat}{w w':ag}(d:am w w')(k a:Int)(b:dN k)(c:dN a):kB (N+1) (some (b8 k a N)) w (.returned (.tuple #[.agg #[ab k,ab a,af .empty,ae none 0 0],.bool true])) w':=
 ⟨b8 k a N,true,rfl,d,(lS N k a b c _ _ (λ_=>True)).1,(lS N k a b c 0 w _).2,rfl,λf e=>by obtain rfl:=az e;exact yf N k a⟩
theorem nT(w:ag)(a b c d:Obj):am w ((((w.alloc a).alloc b).alloc c).alloc d):=(((aS _ _).alloc (by simp) _).alloc (by simp;omega) _).alloc (by simp;omega) _
def oy(q:Nat)(w:ag):Prop:=(w.cell? ⟨q,0,none⟩=some (ab 0)/\w.cell? ⟨q,1,none⟩=some (ab 0)/\w.cell? ⟨q,2,none⟩=some (af .empty)/\w.cell? ⟨q,3,none⟩=some (ae none 0 0))/\(w.frozen? ⟨q,0,none⟩=false/\w.frozen? ⟨q,1,none⟩=false/\w.frozen? ⟨q,2,none⟩=false/\w.frozen? ⟨q,3,none⟩=false)/\q<w.heap.size
theorem oy.below{q:Nat}{w w':ag}(e:oy q w)(c:am w w'):oy q w':=by
 obtain⟨⟨f,g,h,i⟩,⟨f0,f1,f2,f3⟩,d⟩:=e;have a:=λo=>c.cell (p:=⟨q,o,none⟩) d;have b:=λo=>c.frozen (p:=⟨q,o,none⟩) d;exact⟨⟨(a 0).trans f,(a 1).trans g,(a 2).trans h,(a 3).trans i⟩,⟨(b 0).trans f0,(b 1).trans f1,(b 2).trans f2,(b 3).trans f3⟩,aW d c.size⟩
theorem DZ{w w':ag}{s0 s1 g h i j y0 y1 y2 e:au}{t1 t2 t3 t4:TypeId}(a:Below ((((w.alloc (.cells #[s0,s1] t1)).alloc (.cells #[g,h,i,j] t2)).alloc (.cells #[y0,y1,y2,e] t3)).alloc (.cells #[ab 0,ab 0,af .empty,ae none 0 0] t4)).heap.size ((((w.alloc (.cells #[s0,s1] t1)).alloc (.cells #[g,h,i,j] t2)).alloc (.cells #[y0,y1,y2,e] t3)).alloc (.cells #[ab 0,ab 0,af .empty,ae none 0 0] t4)) w'):(ai w' w.heap.size 0 s0/\ai w' w.heap.size 1 s1)/\ (w'.cell? ⟨w.heap.size+1+1,0,none⟩=some y0/\w'.cell? ⟨w.heap.size+1+1,1,none⟩=some y1/\w'.cell? ⟨w.heap.size+1+1,2,none⟩=some y2/\w'.cell? ⟨w.heap.size+1+1,3,none⟩=some e)/\oy (w.heap.size+1+1+1) w':=by
 have k:=a.size;simp at k;have f:=λo=>a.cell (p:=⟨w.heap.size,o,none⟩) (by simp;omega);have b:=λo=>a.cell (p:=⟨w.heap.size+1+1,o,none⟩) (by simp;try omega);have d:=λo=>a.cell (p:=⟨w.heap.size+1+1+1,o,none⟩) (by simp);have c:=λo=>a.frozen (p:=⟨w.heap.size+1+1+1,o,none⟩) (by simp)
 exact⟨⟨(f 0).trans (by simp[go_sem]),(f 1).trans (by simp[go_sem])⟩,⟨(b 0).trans (by simp[go_sem]),(b 1).trans (by simp[go_sem]),(b 2).trans (by simp[go_sem]),(b 3).trans (by simp[go_sem])⟩,
  ⟨(d 0).trans (by simp[go_sem]),(d 1).trans (by simp[go_sem]),(d 2).trans (by simp[go_sem]),(d 3).trans (by simp[go_sem])⟩,⟨(c 0).trans (by simp[go_sem]),(c 1).trans (by simp[go_sem]),(c 2).trans (by simp[go_sem]),(c 3).trans (by simp[go_sem])⟩,by omega⟩
theorem du{w w':ag}{q:Nat}(a:am w w')(c:w.heap.size<=q)(v0 v1 v2 v3:au):am w (df w' q 0 v0 v1 v2 v3):=
 ⟨a.os,a.tape,a.output,aF a.size (dT (bG _ _ _ _).symm),λk b=>(bm (by omega) _ _ _ _).trans (a.block k b)⟩
theorem LV(N:Nat)(p q:Option (Tm N))(B:Hid (PV p))(C:Hid (PV q))(a:ar)(c:Nat)(self:Int)(D E:Int)(F:aq)(xa:ar)(G xc:Nat)(y0 y1:Int)(y2:aq)(ya:ar)(yl yc:Nat)(w:ag)(u:Hid (∀w1,am w w1->ao 210 #[.agg #[ae a 4 c,ab self],.agg #[ab D,ab E,af F,ae xa G xc]] w1 (OP p w1)))(x:Hid (∀w1,am w w1->ao 210 #[.agg #[ae a 4 c,ab self],.agg #[ab y0,ab y1,af y2,ae ya yl yc]] w1 (OP q w1))):ao 207 #[.agg #[ae a 4 c,ab self],.agg #[ab D,ab E,af F,ae xa G xc],.agg #[ab y0,ab y1,af y2,ae ya yl yc]] w (kB (N+1) (xG p q) w):=by
 obtain⟨o,t⟩:∃o,o=xG p q:=⟨_,rfl⟩;rw[<-t];have l:=ap t;clear t;go_enter func207,ntmps207;go_wp2_with fail;refine(u _ (nT _ _ _ _ _)).mono ?_;rintro K O ⟨b,j,rfl,d⟩;obtain⟨⟨L,M⟩,⟨d0,d1,d2,d3⟩,A⟩:=DZ d.1;have r:=ap A;have HB:Hid (am w O):=(nT _ _ _ _ _).trans (d.1.mono (nT _ _ _ _ _).size);have m:Hid (j=_/\_):=d.2;clear u d A;cases j
 ·have e:Hid (o=none):=l.trans (NY m.1.symm);obtain⟨⟨f,g,h,i⟩,⟨f0,f1,f2,f3⟩,_⟩:=r.out;go_wp2_with fail;rw[e.out];exact ay (v:=.tuple #[.agg #[ab 0,ab 0,af .empty,ae none 0 0],.bool false]) (by simp[results,results207,go_sem,f,g,h,i];rfl) rfl (kZ (du HB (by omega) _ _ _ _))
 ·go_wp2_with fail;refine(x _ HB).mono ?_;rintro K P ⟨v,j,rfl,d⟩;have k:Hid (am w P):=HB.trans (d.1.mono HB.size);have n:Hid (j=_/\_):=d.2;have H:=ap (r.below d.1);obtain⟨⟨f,g,h,i⟩,⟨f0,f1,f2,f3⟩,_⟩:=H;clear x d HB L M d0 d1 d2 d3 r;cases j
  ·have e:Hid (o=none):=l.trans (LR n.1.symm);go_wp2_with fail;rw[e.out];exact ay (v:=.tuple #[.agg #[ab 0,ab 0,af .empty,ae none 0 0],.bool false]) (by simp[results,results207,go_sem,f,g,h,i];rfl) rfl (kZ (du k (by omega) _ _ _ _))
  ·obtain⟨es,⟨R,S⟩,T,U⟩:=LS m.1 n.1 m.2 n.2 B C;have s:Hid (o=if -1099511627776<=b+v/\b+v<=1099511627776 then some (b8 1 (b+v) N)else none):=l.trans es;have Q:IntKind.i64.wrap (b+v)=b+v:=by rw[IntKind.wrap];simp[IntKind.bits,IntKind.signed];omega
   clear l m n es B C;by_cases y:b+v< -1099511627776
   ·have I:decide (b+v< -1099511627776)=true:=by simpa using y
    have e:Hid (o=none):=s.trans (if_neg (by omega));go_wp2_with fail;rw[e.out];exact ay (v:=.tuple #[.agg #[ab 0,ab 0,af .empty,ae none 0 0],.bool false]) (by simp[results,results207,go_sem,f,g,h,i];rfl) rfl (kZ (du k (by omega) _ _ _ _))
   ·have I:decide (b+v< -1099511627776)=false:=by simpa using y
    by_cases z:1099511627776<b+v
    ·have J:decide (1099511627776<b+v)=true:=by simpa using z
     have e:Hid (o=none):=s.trans (if_neg (by omega));go_wp2_with fail;rw[e.out];exact ay (v:=.tuple #[.agg #[ab 0,ab 0,af .empty,ae none 0 0],.bool false]) (by simp[results,results207,go_sem,f,g,h,i];rfl) rfl (kZ (du k (by omega) _ _ _ _))
    ·have J:decide (1099511627776<b+v)=false:=by simpa using z
     have e:Hid (o=some (b8 1 (b+v) N)):=s.trans (if_pos (by omega));go_wp2_with fail;rw[e.out];exact ay (v:=.tuple #[.agg #[ab 1,ab (b+v),af .empty,ae none 0 0],.bool true]) (by simp[results,results207,go_sem,f,g,h,i];rfl) rfl (zg (du k (by omega) _ _ _ _) 1 (b+v) (by simp[dN]) ⟨by omega,by omega⟩)
def xb{n N:Nat}(f:Tm n->Option (Tm N))(p:List (Tm n)):List (Tm N):=p.map λy=>(f y).getD (bf N 0 ())
def On{n N:Nat}(f:Tm n->Option (Tm N))(p:List (Tm n))(k:Nat):Prop:=∀(i:Nat)(y:Tm n),i<k->p[i]?=some y->(f y).isSome=true
theorem Mc{n N:Nat}{f:Tm n->Option (Tm N)}{p:List (Tm n)}{k:Nat}(c:On f p k)(h:p.length<=k):cZ f p=some (xb f p):=by
 refine xO f _ p λb e=>?_;obtain⟨g,a⟩:=dp e;have i:=(aZ.1 a).1;have:=c g b (by omega) a;cases d:f b with
 | none=>rw[d]at this;cases this
 | some j=>rfl
theorem On.next{n N:Nat}{f:Tm n->Option (Tm N)}{p:List (Tm n)}{k:Nat}{x:Tm n}(d:On f p k)(g:p[k]?=some x)(e:true=(f x).isSome):On f p (k+1):=by
 intro b h i a;by_cases c:b=k
 ·subst c;rw[g]at a;obtain rfl:=az a;exact e.symm
 ·exact d b h (by omega) a
theorem N7{n N:Nat}{f:Tm n->Option (Tm N)}{p:List (Tm n)}{k:Nat}{x:Tm n}(d:p[k]?=some x)(c:true=(f x).isSome):∃a,(xb f p)[k]?=some a/\f x=some a:=by
 cases b:f x with
 | none=>rw[b]at c;cases c
 | some a=>exact⟨a,by simp[xb,d,b],rfl⟩
theorem Jo{N:Nat}{P:List (Tm N)}{w wr:ag}{g len k:Nat}{l:List (Tm N)}(i:uS N P len g k l wr)(u:P.length=len)(o:k=len)(m:am w wr)(v:len<=8)(q:Nat)(p:w.heap.size<=q)(y:q<g)(v0 v1 v2 v3:au):kB (N+1) (some (dx N P)) w (.returned (.tuple #[.agg #[ab 4,ab 0,af .empty,ae (some ⟨g,0,none⟩) len len],.bool true])) (df wr q 0 v0 v1 v2 v3):=by
 obtain⟨j,c,d,e⟩:=i;subst o;rw[bD (by omega)]at e;rw[gu,nC,dQ]at c;refine⟨((4,0,.empty),(some ⟨g,0,none⟩,k),l),true,?_,du m p _ _ _ _,?_,?_,rfl,λz s=>?_⟩
 ·simp only[dG,j]
 ·refine⟨⟨by simp[dN],by simp[dN],aM _,by simp only;omega,by unfold maxLen;simp only;omega⟩,ak ⟨g,0,rfl,by rw[bG];exact c.lt.2,λf b a=>?_⟩⟩;obtain⟨h,t⟩:=d b (aL a);have n:=c.cells f ⟨N,b⟩ (by simp[a]);refine⟨dH.block (bm (by omega) _ _ _ _) ?_,?_⟩
  ·cases N with
   | zero=>exact h.elim
   | succ N=>
    rw[cT];exact n
  ·rw[bG];exact In.off (P:=λx=>g<x) (λx r=>bm (by omega) _ _ _ _) t h
 ·exact ak ⟨g,0,rfl,by omega,λf b a=>(d b (aL a)).2.mono λx r=>by omega⟩
 ·obtain rfl:=az s;exact dt rfl e
theorem Md{n N:Nat}(f:Tm n->Option (Tm N))(p:List (Tm n)):(xb f p).length=p.length:=by simp[xb]
theorem uS.grow{N:Nat}{P:List (Tm N)}{len g k:Nat}{l:List (Tm N)}{w w':ag}(e:uS N P len g k l w)(a:am w w'):uS N P len g k l w':=by
 obtain⟨f,h,b,i⟩:=e;exact⟨f,h.below a,λd c=>⟨((b d c).1.below a).mono a.size,(b d c).2⟩,i⟩
theorem oy.block{q:Nat}{w w':ag}(d:oy q w)(c:w'.heap[q]?=w.heap[q]?)(j:w.heap.size<=w'.heap.size):oy q w':=by
 obtain⟨⟨e,f,g,h⟩,⟨f0,f1,f2,f3⟩,i⟩:=d;have a:=λo=>bH c o;have b:∀o,w'.frozen? ⟨q,o,none⟩=w.frozen? ⟨q,o,none⟩:=λo=>by simp[World.frozen?,c]
 exact⟨⟨(a 0).trans e,(a 1).trans f,(a 2).trans g,(a 3).trans h⟩,⟨(b 0).trans f0,(b 1).trans f1,(b 2).trans f2,(b 3).trans f3⟩,aW i j⟩
theorem vD{w w':ag}(a:w.grownBy w' none):am w w':=⟨a.os,a.tape,a.output,a.size,λk b=>a.block k b (by simp)⟩
theorem zy{w w':ag}{s0 s1:au}{t1 t2:TypeId}(f:((w.alloc (.cells #[s0,s1] t1)).alloc (.cells #[ab 0,ab 0,af .empty,ae none 0 0] t2)).grownBy w' none):am w w'/\(ai w' w.heap.size 0 s0/\ai w' w.heap.size 1 s1)/\oy (w.heap.size+1) w':=by
 have a:=vD f;have g:=a.size;simp at g;have d:am w ((w.alloc (.cells #[s0,s1] t1)).alloc (.cells #[ab 0,ab 0,af .empty,ae none 0 0] t2)):=(aS _ _).alloc (by simp) _;have e:=λo=>a.cell (p:=⟨w.heap.size,o,none⟩) (by simp;omega);have c:=λo=>a.cell (p:=⟨w.heap.size+1,o,none⟩) (by simp);have b:=λo=>a.frozen (p:=⟨w.heap.size+1,o,none⟩) (by simp)
 exact⟨d.trans (a.mono d.size),⟨(e 0).trans (by simp[go_sem]),(e 1).trans (by simp[go_sem])⟩,
  ⟨(c 0).trans (by simp[go_sem]),(c 1).trans (by simp[go_sem]),(c 2).trans (by simp[go_sem]),(c 3).trans (by simp[go_sem])⟩,⟨(b 0).trans (by simp[go_sem]),(b 1).trans (by simp[go_sem]),(b 2).trans (by simp[go_sem]),(b 3).trans (by simp[go_sem])⟩,by omega⟩
theorem Dc(m:Nat)(b:List (Tm m))(self:Int)(n:Nat)(ih:Hid (OM m b self n))(p:List (Tm n))(len:Nat)(W:Hid (p.length=len))(pa:ar)(pc:Nat)(a:ar)(c B:Nat)(w:ag)(a1:len<=8)(V:Hid (fZ B w n p pa))(a3:Hid (∀y∈p,aJ ⟨n,y⟩))(aC:Hid (fZ B w m b a))(H:B<=w.heap.size):ao 208 #[.agg #[ae a 4 c,ab self],ae pa len pc] w (kB (m+n+1) ((cZ (λy=>vl m b self n y) p).map (dx (m+n))) w):=by
 obtain⟨o,T⟩:∃o,o=(cZ (λy=>vl m b self n y) p).map (dx (m+n)):=⟨_,rfl⟩;rw[<-T];have ax:=ap T;clear T;obtain⟨a5,aG,aO,aP,aQ⟩:=bY gO;go_enter func208,ntmps208;go_wp2_with (at_make;refine lD _ rfl _ _ 29 rfl _ 31 a5 _ 4 underlying29 aG aO aP _ _ _ _ len rfl rfl rfl rfl (by rw[aQ];omega) (by unfold maxLen;omega) (av _) ?_;intro g aI S;have s:=ap (rK (m+n) (xb (λy=>vl m b self n y) p) len aI);have aW:=ap (vD S);have aA:=ap (zy S);clear aI S aG aO aP aQ);have es:((w.alloc (.cells #[ae a 4 c,ab self] 278)).alloc (.cells #[ab 0,ab 0,af ⟨#[]⟩,ae none 0 0] 31)).heap.size=w.heap.size+1+1:=by simp
 rw[es]at s;clear es aW;obtain⟨aD,aE,D⟩:=aA.out
 have aq:Hid (am w g/\(ai g w.heap.size 0 (ae a 4 c)/\ai g w.heap.size 1 (ab self))/\oy (w.heap.size+1) g/\On (λy=>vl m b self n y) p 0/\∃l,uS (m+n) (xb (λy=>vl m b self n y) p) len (w.heap.size+1+1) 0 l g):=
  ⟨aD,aE,D,λr y bn _=>by omega,[],s.out⟩
 clear aA s aD aE D;go_wp2_with fail;go_loopw [16] (λr wr=>∃k:Nat,k<=len/\r=ab k/\Hid (am w wr/\(wr.cell? ⟨w.heap.size,0,none⟩=some (ae a 4 c)/\wr.cell? ⟨w.heap.size,1,none⟩=some (ab self))/\oy (w.heap.size+1) wr/\On (λy=>vl m b self n y) p k/\∃l,uS (m+n) (xb (λy=>vl m b self n y) p) len (w.heap.size+1+1) k l wr)) (λr _=>len-(intOf r).toNat)
 case atStart=>exact⟨0,by omega,rfl,aq.out⟩
 case round=>
  obtain⟨k,bo,rfl,az⟩:=hrel;clear aq;obtain⟨h,⟨Z,aa⟩,G,u,l,i⟩:Hid (am w wr)/\(ai wr w.heap.size 0 (ae a 4 c)/\ai wr w.heap.size 1 (ab self))/\Hid (oy (w.heap.size+1) wr)/\Hid (On (λy=>vl m b self n y) p k)/\∃l,Hid (uS (m+n) (xb (λy=>vl m b self n y) p) len (w.heap.size+1+1) k l wr):=az.out;clear az;by_cases aH:k<len
  ·obtain⟨x,t⟩:∃x,p[k]?=some x:=⟨p[k]'(by rw[W.out];exact aH),aN _⟩;obtain⟨E,po,rfl,a2,aK⟩:∃E po,pa=some ⟨E,po,none⟩/\E<B/\∀(r:Nat)(y:Tm n),p[r]?=some y->dH w E (po+r*4) n y/\In B w n y:=by
    rcases V.out with P|P
    ·rw[P]at t;simp at t
    ·exact P
   obtain⟨I,J⟩:=aK k x t;have N:=ap t;have aY:=ap (a3.out x (aL t));replace I:=I.below (h.out.mono H) a2;replace J:=J.below (h.out.mono H);have Q:B<=wr.heap.size:=aF H h.out.size
   have F:Hid (∀g,am wr g->ao 189 #[.agg #[ae a 4 c,ab self],dG n x] g (kB (m+n) (vl m b self n x) g)):=
    λg e=>ih.out x a c B g (J.below (e.mono Q)) aY.out ((aC.out.below (h.out.mono H)).below (e.mono Q)) (aF Q e.size)
   obtain⟨Y,U⟩:∃Y,Y=vl m b self n x:=⟨_,rfl⟩;rw[<-U]at F;have L:=ap U;clear aK t V U J;cases n with
   | zero=>exact I.elim
   | succ n=>
   obtain⟨bc,bd,be,bf⟩:=I;have A:dG (n+1) x=.agg #[ab x.1.1,ab x.1.2.1,af x.1.2.2,ae x.2.1.1 x.2.2.length x.2.1.2]:=rfl;rw[A]at F;clear A;generalize x.2.2.length=bs at*;have bp:(0:Int)<=(k:Int):=by omega
   have bq:(k:Int)<(len:Int):=by omega
   have br:E<wr.heap.size:=by omega
   have aM:w.heap.size<wr.heap.size:=by have:=G.out.2.2;omega
   go_wp2_with fail;refine(F.out _ (aS _ _)).mono ?_;rintro bk d ⟨y,a7,rfl,j⟩;have q:Hid (am wr d):=(aS _ _).trans (j.out.1.mono (by simp));have aB:Hid (am w d):=h.out.trans (q.out.mono h.out.size);have O:=ap (G.out.below q.out);replace Z:=(aw q.out _ _ aM).trans Z;replace aa:=(aw q.out _ _ aM).trans aa;have A:dG (m+(n+1)) y=.agg #[ab y.1.1,ab y.1.2.1,af y.1.2.2,ae y.2.1.1 y.2.2.length y.2.1.2]:=rfl;rw[A];clear F bc bd be bf G A;cases a7
   ·have K:Hid (o=none):=by
      have e:vl m b self (n+1) x=none:=by
       have:=j.out.2.2.2.1;rw[<-L.out];cases Y with
       | none=>rfl
       | some ad=>cases this
      show o=none;rw[ax.out,mQ _ p k x N.out e];rfl
    obtain⟨⟨ah,aj,ak,al⟩,⟨f0,f1,f2,f3⟩,aT⟩:=O.out;clear j i u;go_wp2_with fail;rw[K.out];exact ay (v:=.tuple #[.agg #[ab 0,ab 0,af .empty,ae none 0 0],.bool false]) (by simp[results,results208,go_sem,ah,aj,ak,al,aT];rfl) rfl (kZ ((du aB.out (by omega) _ _ _ _).alloc (by rw[bG];omega) _))
   ·have R:true=(vl m b self (n+1) x).isSome:=by rw[<-L.out];exact j.out.2.2.2.1
    obtain⟨ad,D,aR⟩:=N7 (f:=λy=>vl m b self (n+1) y) N.out R;have au:=ap (u.out.next N.out R);have s:=ap (i.out.step aH ad D q.out y j.out.2.1 (j.out.2.2.1.mono λaV X=>by have:=i.out.2.1.lt.2;simp at X;omega) (j.out.2.2.2.2 ad (by rw[L.out];exact aR)));have z:=ap (i.out.2.1.below q.out);have M:Hid (am w (jT d (w.heap.size+1+1) (k*4) (gK (m+(n+1)) y))):=by
     have e:=aB.out;exact⟨e.os,e.tape,e.output,aF e.size (dT (bG _ _ _ _).symm),λaV X=>(bm (by omega) _ _ _ _).trans (e.block aV X)⟩
    have aX:Hid (∀o:Obj,am w ((jT d (w.heap.size+1+1) (k*4) (gK (m+(n+1)) y)).alloc o)/\(((jT d (w.heap.size+1+1) (k*4) (gK (m+(n+1)) y)).alloc o).cell? ⟨w.heap.size,0,none⟩=some (ae a 4 c)/\((jT d (w.heap.size+1+1) (k*4) (gK (m+(n+1)) y)).alloc o).cell? ⟨w.heap.size,1,none⟩=some (ab self))/\oy (w.heap.size+1) ((jT d (w.heap.size+1+1) (k*4) (gK (m+(n+1)) y)).alloc o)/\On (λy=>vl m b self (n+1) y) p (k+1)/\∃l,uS (m+(n+1)) (xb (λy=>vl m b self (n+1) y) p) len (w.heap.size+1+1) (k+1) l ((jT d (w.heap.size+1+1) (k*4) (gK (m+(n+1)) y)).alloc o)):=by
     intro o;have C:Below (jT d (w.heap.size+1+1) (k*4) (gK (m+(n+1)) y)).heap.size (jT d (w.heap.size+1+1) (k*4) (gK (m+(n+1)) y)) ((jT d (w.heap.size+1+1) (k*4) (gK (m+(n+1)) y)).alloc o):=aS _ _;have a4:(jT d (w.heap.size+1+1) (k*4) (gK (m+(n+1)) y)).heap.size=d.heap.size:=bG _ _ _ _;have a0:=z.out.lt.2;refine⟨M.out.trans (C.mono M.out.size),⟨?_,?_⟩,?_,au.out,l++ [y],s.out.grow C⟩
     ·exact(aw C _ _ (by omega)).trans ((bH (bm (by omega) _ _ _ _) _).trans Z)
     ·exact(aw C _ _ (by omega)).trans ((bH (bm (by omega) _ _ _ _) _).trans aa)
     ·refine oy.below ?_ C;exact O.out.block (bm (by omega) _ _ _ _) (dT a4.symm)
    obtain⟨an,aU⟩:∃an,(l.map (λx=>(⟨m+(n+1),x⟩:An))++List.replicate (len-k) zA)[k]?=some an:=⟨_,aN (by simp[i.out.1];omega)⟩;obtain⟨bg,bh,bi,bj⟩:=z.out.cells k an aU;have bl:=λa6=>z.out.free a6;have a0:w.heap.size+1+1<d.heap.size:=z.out.lt.2;clear j i u q h s au M z aU O D aR R;go_wp2_with fail;go_roundw
    case rel=>exact⟨k+1,by omega,by go_num,aX.out _⟩
    case measure=>simp[intOf];omega
  ·obtain rfl:k=len:=by omega
   have K:Hid (o=some (dx (m+n) (xb (λy=>vl m b self n y) p))):=by
    show o=_;rw[ax.out,Mc u.out (by rw[W.out];exact av _)];rfl
   have aZ:=λa8 a9 ba bb=>ap (Jo i.out (by rw[Md];exact W.out) rfl h.out a1 (w.heap.size+1) (by omega) (by omega) a8 a9 ba bb);obtain⟨⟨ah,aj,ak,al⟩,⟨f0,f1,f2,f3⟩,aT⟩:=G.out;clear u i h V aC;go_wp2_with fail;rw[K.out];exact ay (v:=.tuple #[.agg #[ab 4,ab 0,af .empty,ae (some ⟨w.heap.size+1+1,0,none⟩) k k],.bool true]) (by simp[results,results208,go_sem,ah,aj,ak,al];rfl) rfl (aZ _ _ _ _).out
theorem B5{P:aO}:(N n:Nat)->n<=N->(x:Tm n)->cD P n x->cD P N (bf N n x)
 | _,0,_,_,k=>k.elim
 | 0,n+1,h,_,_=>by omega
 | N+1,n+1,h,x,k=>by
  rcases k with k|⟨b,o,e,d,k⟩
  ·exact aj (by simp[bf,k])
  ·refine ak ⟨b,o,e,d,λi y a=>?_⟩;simp only[bf,dn]at a;obtain⟨c,f,rfl⟩:=cG.1 a;exact B5 N n (by omega) c (k i c f)
theorem KU(N n:Nat)(x:Tm (n+1)):dG (N+1) (bf (N+1) (n+1) x)=dG (n+1) x:=by simp[dG,bf]
theorem KT{N n:Nat}(d:n<=N){x y:Tm (n+1)}(a:aJ ⟨n+1,x⟩)(b:aB (n+1) y (n+1) x=true):aB (N+1) (bf (N+1) (n+1) y) (N+1) (bf (N+1) (n+1) x)=true:=by
 have c:aJ ⟨n+1,y⟩:=aU.2 (by rw[jW _ _ _ _ b];exact aU.1 a);exact bS _ _ _ _ _ _ (fS (N+1) (n+1) (by omega) y c) (bS _ _ _ _ _ _ b (dX _ _ _ _ (fS (N+1) (n+1) (by omega) x a)))
theorem Jv{N n:Nat}(b:n<=N){x y:Tm (n+1)}{w w':ag}(f:aJ ⟨n+1,x⟩)(c:am w w')(d:In w'.heap.size w' (n+1) y)(e:cD (λq=>w.heap.size<=q) (n+1) y)(g:aB (n+1) y (n+1) x=true)(r:Bool):kB (N+1) (if r then some (bf (N+1) (n+1) x)else none) w (.returned (.tuple #[.agg #[ab y.1.1,ab y.1.2.1,af y.1.2.2,ae y.2.1.1 y.2.2.length y.2.1.2],.bool r])) w':=by
 refine⟨bf (N+1) (n+1) y,r,by rw[KU];rfl,c,pt _ _ (by omega) _ _ _ d,B5 _ _ (by omega) _ e,by cases r<;>rfl,λh a=>?_⟩;cases r with
 | false=>cases a
 | true=>
  obtain rfl:=az a;exact KT b f g
theorem xe{N:Nat}{o:Option (Tm (N+1))}{w w1 w2:ag}{y:Tm (N+1)}{r:Bool}{q:Nat}(c:am w w1)(k:w.heap.size<=q)(m:q<w1.heap.size)(e:am w1 w2/\In w2.heap.size w2 (N+1) y/\cD (λq=>w1.heap.size<=q) (N+1) y/\r=o.isSome/\∀d,o=some d->aB (N+1) y (N+1) d=true)(v0 v1 v2 v3:au):kB (N+1) o w (.returned (.tuple #[.agg #[ab y.1.1,ab y.1.2.1,af y.1.2.2,ae y.2.1.1 y.2.2.length y.2.1.2],.bool r])) (df w2 q 0 v0 v1 v2 v3):=by
 obtain⟨f,g,a,h,i⟩:=e;have l:=c.size;refine⟨y,r,rfl,du (c.trans (f.mono l)) k _ _ _ _,?_,a.mono λb j=>by omega,h,i⟩;rw[bG];exact In.off (P:=λb=>w1.heap.size<=b) (λb j=>bm (by omega) _ _ _ _) a g
theorem xf{N n:Nat}(h:n<=N){x y:Tm (n+1)}{w w1 w2 g:ag}{q:Nat}(p:aJ ⟨n+1,x⟩)(e:am w w1)(o:w.heap.size<=q)(s:q<w1.heap.size)(k:am w1 w2/\In w2.heap.size w2 (n+1) y/\cD (λq=>w1.heap.size<=q) (n+1) y/\aB (n+1) y (n+1) x=true)(a:am w2 g)(r:Bool)(v0 v1 v2 v3:au):kB (N+1) (if r then some (bf (N+1) (n+1) x)else none) w (.returned (.tuple #[.agg #[ab y.1.1,ab y.1.2.1,af y.1.2.2,ae y.2.1.1 y.2.2.length y.2.1.2],.bool r])) (df g q 0 v0 v1 v2 v3):=by
 obtain⟨c,i,d,j⟩:=k;have f:=e.size;have l:=(e.trans (c.mono f)).trans (a.mono (aF f c.size));refine Jv h p (du l o _ _ _ _) ?_ (d.mono λb m=>by omega) j r;rw[bG];exact In.off (P:=λb=>w1.heap.size<=b) (λb m=>bm (by omega) _ _ _ _) d ((i.below a).mono a.size)
theorem AP{w:ag}{s0 s1:au}{t1 t2:TypeId}:am w ((w.alloc (.cells #[s0,s1] t1)).alloc (.cells #[ab 0,ab 0,af .empty,ae none 0 0] t2))/\oy (w.heap.size+1) ((w.alloc (.cells #[s0,s1] t1)).alloc (.cells #[ab 0,ab 0,af .empty,ae none 0 0] t2)):=by
 have a:=zy (w:=w) (s0:=s0) (s1:=s1) (t1:=t1) (t2:=t2) (w':=(w.alloc (.cells #[s0,s1] t1)).alloc (.cells #[ab 0,ab 0,af .empty,ae none 0 0] t2)) (g8 _ _);exact⟨a.1,a.2.2⟩
theorem AQ{w w1:ag}{s0 s1:au}{t1 t2:TypeId}(a:w1=(w.alloc (.cells #[s0,s1] t1)).alloc (.cells #[ab 0,ab 0,af .empty,ae none 0 0] t2)):am w w1/\oy (w.heap.size+1) w1/\w1.cell? ⟨w.heap.size,0,none⟩=some s0/\w1.cell? ⟨w.heap.size,1,none⟩=some s1:=by
 subst a;have a:=zy (w:=w) (s0:=s0) (s1:=s1) (t1:=t1) (t2:=t2) (w':=(w.alloc (.cells #[s0,s1] t1)).alloc (.cells #[ab 0,ab 0,af .empty,ae none 0 0] t2)) (g8 _ _);exact⟨a.1,a.2.2,a.2.1.1,a.2.1.2⟩
theorem N9(N:Nat)(o:Option (Tm (N+1)))(a:ar)(c:Nat)(self:Int)(j:dN self)(pa:ar)(len:Nat)(pc:Nat)(w:ag)(d:Hid (∀w1,am w w1->ao 206 #[ae pa len pc,af qu,ab 0] w1 λe w'=>e=.returned (.bool true)/\w'=w1))(i:Hid (o=some (b8 3 self N))):ao 202 #[.agg #[ae a 4 c,ab self],ae pa len pc] w (kB (N+1) o w):=by
 go_enter func202,ntmps202;go_wp2_with fail;refine(d _ AP.1).mono ?_;rintro e w1 ⟨rfl,g⟩;obtain⟨f,b,r,s⟩:=AQ g;have HB:=ap f;have h:=ap b;have p:w.heap.size<w1.heap.size:=by have:=b.2.2;omega
 clear g f b d;obtain⟨⟨k,l,m,n⟩,⟨f0,f1,f2,f3⟩,q⟩:=h;go_wp2_with fail;rw[i.out];exact ay (v:=.tuple #[.agg #[ab 3,ab self,af .empty,ae none 0 0],.bool true]) (by simp[results,results202,go_sem,k,l,m,n];rfl) rfl (zg (du HB (by omega) _ _ _ _) 3 self (by simp[dN]) j)
theorem PG(N:Nat)(o:Option (Tm (N+1)))(a:ar)(c:Nat)(self:Int)(b po:Nat)(j k:Int)(l:aq)(xa:ar)(m xc:Nat)(y0 y1:Int)(y2:aq)(ya:ar)(yl yc:Nat)(pc:Nat)(w:ag)(p:Hid (∀w1,am w w1->ao 206 #[ae (some ⟨b,po,none⟩) 3 pc,af qu,ab 0] w1 λe w'=>e=.returned (.bool false)/\w'=w1))(D:Hid (∀w1,am w w1->ao 206 #[ae (some ⟨b,po,none⟩) 3 pc,af xg,ab 2] w1 λe w'=>e=.returned (.bool true)/\w'=w1))(g:b<w.heap.size)(G:w.cell? ⟨b,po+4,none⟩=some (ab j)/\w.cell? ⟨b,po+4+1,none⟩=some (ab k)/\w.cell? ⟨b,po+4+2,none⟩=some (af l)/\w.cell? ⟨b,po+4+3,none⟩=some (ae xa m xc))(H:w.cell? ⟨b,po+8,none⟩=some (ab y0)/\w.cell? ⟨b,po+8+1,none⟩=some (ab y1)/\w.cell? ⟨b,po+8+2,none⟩=some (af y2)/\w.cell? ⟨b,po+8+3,none⟩=some (ae ya yl yc))(E:Hid (∀w1,am w w1->ao 207 #[.agg #[ae a 4 c,ab self],.agg #[ab j,ab k,af l,ae xa m xc],.agg #[ab y0,ab y1,af y2,ae ya yl yc]] w1 (kB (N+1) o w1))):ao 202 #[.agg #[ae a 4 c,ab self],ae (some ⟨b,po,none⟩) 3 pc] w (kB (N+1) o w):=by
 go_enter func202,ntmps202;go_wp2_with fail;refine(p _ AP.1).mono ?_;rintro e w1 ⟨rfl,r⟩;obtain⟨q,i,Z,aa⟩:=AQ r;have HB:=ap q;have n:=ap i;have X:w.heap.size<w1.heap.size:=by have:=i.2.2;omega
 clear r q i p;have f:=aw HB;obtain⟨s,t,u,x⟩:=G;obtain⟨y,z,A,B⟩:=H;replace s:=(f _ _ g).trans s;replace t:=(f _ _ g).trans t;replace u:=(f _ _ g).trans u;replace x:=(f _ _ g).trans x;replace y:=(f _ _ g).trans y;replace z:=(f _ _ g).trans z;replace A:=(f _ _ g).trans A;replace B:=(f _ _ g).trans B;clear f;go_wp2_with fail;refine(D _ HB).mono ?_;rintro e P ⟨rfl,rfl⟩;have W:b<P.heap.size:=aW g HB.size;have U:¬(w.heap.size+1=b):=by omega
 have V:¬(b=w.heap.size+1):=by omega
 have I:∀d:Tm (N+1),dG (N+1) d=.agg #[ab d.1.1,ab d.1.2.1,af d.1.2.2,ae d.2.1.1 d.2.2.length d.2.1.2]:=λ_=>rfl;go_wp2_with fail
 go_region_held3 (λw'=>w'.cell? ⟨w.heap.size,0,none⟩=some (ae a 4 c)/\w'.cell? ⟨w.heap.size,1,none⟩=some (ab self)/\w'.cell? ⟨b,po+4,none⟩=some (ab j)/\w'.cell? ⟨b,po+4+1,none⟩=some (ab k)/\w'.cell? ⟨b,po+4+2,none⟩=some (af l)/\w'.cell? ⟨b,po+4+3,none⟩=some (ae xa m xc)
     /\w'.cell? ⟨b,po+8,none⟩=some (ab y0)/\w'.cell? ⟨b,po+8+1,none⟩=some (ab y1)/\w'.cell? ⟨b,po+8+2,none⟩=some (af y2)/\w'.cell? ⟨b,po+8+3,none⟩=some (ae ya yl yc))
  (go_keep) ((go_at_call 207;refine(E _ HB.drew).mono ?_;rintro e ad ⟨d,J,rfl,h⟩;rw[I];have f:=aw (dc h.1);have C:=ap (n.below (dc h.1));obtain⟨⟨Q,R,S,T⟩,⟨f0,f1,f2,f3⟩,Y⟩:=C))
 have F:=λK L M O=>ap (xe HB.drew (iB _ 1) n.2.2 h K L M O);clear h f;go_wp2_with fail;exact ay (v:=.tuple #[.agg #[ab d.1.1,ab d.1.2.1,af d.1.2.2,ae d.2.1.1 d.2.2.length d.2.1.2],.bool J]) (by simp[results,results202,go_sem,Q,R,S,T]) rfl (F _ _ _ _)
theorem PH(N:Nat)(o:Option (Tm (N+1)))(a:ar)(c:Nat)(self:Int)(b po:Nat)(n:Nat)(L:n<=N)(x:Tm (n+1))(cl:Bool)(pc:Nat)(w:ag)(l:Hid (∀w1,am w w1->ao 206 #[ae (some ⟨b,po,none⟩) 2 pc,af qu,ab 0] w1 λe w'=>e=.returned (.bool false)/\w'=w1))(C:Hid (∀w1,am w w1->ao 206 #[ae (some ⟨b,po,none⟩) 2 pc,af xg,ab 2] w1 λe w'=>e=.returned (.bool false)/\w'=w1))(D:Hid (∀w1,am w w1->ao 206 #[ae (some ⟨b,po,none⟩) 2 pc,af Dj,ab 1] w1 λe w'=>e=.returned (.bool true)/\w'=w1))(f:b<w.heap.size)(M:dH w b (po+4) (n+1) x)(H:Hid (aJ ⟨n+1,x⟩))(G:Hid (∀w1,am w w1->ao 56 #[.agg #[ab x.1.1,ab x.1.2.1,af x.1.2.2,ae x.2.1.1 x.2.2.length x.2.1.2]] w1 λe w'=>∃y:Tm (n+1),e=.returned (dG (n+1) y)/\Hid (am w1 w'/\In w'.heap.size w' (n+1) y/\cD (λq=>w1.heap.size<=q) (n+1) y/\aB (n+1) y (n+1) x=true)))(E:Hid (∀w1,am w w1->ao 54 #[.agg #[ab x.1.1,ab x.1.2.1,af x.1.2.2,ae x.2.1.1 x.2.2.length x.2.1.2]] w1 λe w'=>e=.returned (.bool cl)/\am w1 w'))(F:Hid (o=if cl then some (bf (N+1) (n+1) x)else none)):ao 202 #[.agg #[ae a 4 c,ab self],ae (some ⟨b,po,none⟩) 2 pc] w (kB (N+1) o w):=by
 go_enter func202,ntmps202;go_wp2_with fail;refine(l _ AP.1).mono ?_;rintro e w1 ⟨rfl,p⟩;obtain⟨m,i,ai,aj⟩:=AQ p;have HB:=ap m;have k:=ap i;have ad:w.heap.size<w1.heap.size:=by have:=i.2.2;omega
 clear p m i l;have d:=aw HB;obtain⟨t,u,z,A⟩:=M;replace t:=(d _ _ f).trans t;replace u:=(d _ _ f).trans u;replace z:=(d _ _ f).trans z;replace A:=(d _ _ f).trans A;clear d;generalize x.2.2.length=S at*;go_wp2_with fail;refine(C _ HB).mono ?_;rintro e r ⟨rfl,rfl⟩;go_wp2_with fail;refine(D _ HB).mono ?_;rintro e r ⟨rfl,rfl⟩;have Z:b<r.heap.size:=aW f HB.size;have X:¬(w.heap.size+1=b):=by omega
 have Y:¬(b=w.heap.size+1):=by omega
 have J:∀y:Tm (n+1),dG (n+1) y=.agg #[ab y.1.1,ab y.1.2.1,af y.1.2.2,ae y.2.1.1 y.2.2.length y.2.1.2]:=λ_=>rfl;go_wp2_with fail
 go_region_held3 (λw'=>w'.cell? ⟨b,po+4,none⟩=some (ab x.1.1)/\w'.cell? ⟨b,po+4+1,none⟩=some (ab x.1.2.1)/\w'.cell? ⟨b,po+4+2,none⟩=some (af x.1.2.2)/\w'.cell? ⟨b,po+4+3,none⟩=some (ae x.2.1.1 S x.2.1.2))
  (go_keep) ((first|(go_at_call 56;refine(G _ HB.drew).mono ?_;rintro e s ⟨y,rfl,g⟩;rw[J];have d:=aw (dc g.1);have j:Hid (am w s):=(HB.drew).trans (g.1.mono HB.size))|(go_at_call 54;refine(E _ j).mono ?_;rintro e ak ⟨rfl,h⟩;have K:=aw h;have aa:b<s.heap.size:=aW f j.size;have B:=ap ((k.below (dc g.1)).below h);obtain⟨⟨T,U,V,W⟩,⟨f0,f1,f2,f3⟩,ah⟩:=B)))
 have I:=λO P Q R=>ap (xf L H HB.drew (iB _ 1) k.2.2 g h cl O P Q R);clear g d K h;go_wp2_with fail;rw[F.out];exact ay (v:=.tuple #[.agg #[ab y.1.1,ab y.1.2.1,af y.1.2.2,ae y.2.1.1 y.2.2.length y.2.1.2],.bool cl]) (by simp[results,results202,go_sem,T,U,V,W]) rfl (I _ _ _ _)
theorem N8(N:Nat)(o:Option (Tm (N+1)))(a:ar)(c:Nat)(self:Int)(pa:ar)(len:Nat)(pc:Nat)(w:ag)(h:Hid (∀w1,am w w1->ao 206 #[ae pa len pc,af qu,ab 0] w1 λe w'=>e=.returned (.bool false)/\w'=w1))(i:Hid (∀w1,am w w1->ao 206 #[ae pa len pc,af xg,ab 2] w1 λe w'=>e=.returned (.bool false)/\w'=w1))(j:Hid (∀w1,am w w1->ao 206 #[ae pa len pc,af Dj,ab 1] w1 λe w'=>e=.returned (.bool false)/\w'=w1))(k:Hid (∀w1,am w w1->ao 208 #[.agg #[ae a 4 c,ab self],ae pa len pc] w1 (kB (N+1) o w1))):ao 202 #[.agg #[ae a 4 c,ab self],ae pa len pc] w (kB (N+1) o w):=by
 go_enter func202,ntmps202;go_wp2_with fail;refine(h _ AP.1).mono ?_;rintro e w1 ⟨rfl,n⟩;obtain⟨m,f,F,G⟩:=AQ n;have HB:=ap m;have g:=ap f;have D:w.heap.size<w1.heap.size:=by have:=f.2.2;omega
 clear n m f h;go_wp2_with fail;refine(i _ HB).mono ?_;rintro e y ⟨rfl,rfl⟩;go_wp2_with fail;refine(j _ HB).mono ?_;rintro e y ⟨rfl,rfl⟩;go_wp2_with fail;refine(k _ HB).mono ?_;rintro e H ⟨b,r,rfl,d⟩;have p:=ap (g.below d.1);have q:=λs t u x=>ap (xe HB (iB _ 1) g.2.2 d s t u x);obtain⟨⟨z,A,B,C⟩,⟨f0,f1,f2,f3⟩,E⟩:=p;have l:dG (N+1) b=.agg #[ab b.1.1,ab b.1.2.1,af b.1.2.2,ae b.2.1.1 b.2.2.length b.2.1.2]:=rfl;rw[l];clear d k i j l;go_wp2_with fail;exact ay (v:=.tuple #[.agg #[ab b.1.1,ab b.1.2.1,af b.1.2.2,ae b.2.1.1 b.2.2.length b.2.1.2],.bool r]) (by simp[results,results202,go_sem,z,A,B,C]) rfl (q _ _ _ _)
theorem iP(w:ag)(s0 s1 a b c d:au)(t1 t2 t3:TypeId):am w (((w.alloc (.cells #[s0,s1] t1)).alloc (.cells #[a,b,c,d] t2)).alloc (.cells #[ab 0,ab 0,af .empty,ae none 0 0] t3))/\ oy (w.heap.size+1+1) (((w.alloc (.cells #[s0,s1] t1)).alloc (.cells #[a,b,c,d] t2)).alloc (.cells #[ab 0,ab 0,af .empty,ae none 0 0] t3)):=by
 refine⟨(((aA _ _).alloc (av _) _).alloc (by simp) _).alloc (by simp;omega) _,⟨?_,?_,?_,?_⟩,⟨?_,?_,?_,?_⟩,?_⟩<;>simp[go_sem]
theorem Nb{w W:ag}{s0 s1 c d e f y0 y1 y2 a:au}{t1 t2 t3 t4:TypeId}(b:(((w.alloc (.cells #[s0,s1] t1)).alloc (.cells #[c,d,e,f] t2)).alloc (.cells #[ab 0,ab 0,af .empty,ae none 0 0] t3)).alloc (.cells #[y0,y1,y2,a] t4)=W):am w W/\oy (w.heap.size+1+1) W/\ (W.cell? ⟨w.heap.size+1+1+1,0,none⟩=some y0/\W.cell? ⟨w.heap.size+1+1+1,1,none⟩=some y1/\W.cell? ⟨w.heap.size+1+1+1,2,none⟩=some y2/\W.cell? ⟨w.heap.size+1+1+1,3,none⟩=some a)/\w.heap.size+1+1+1<W.heap.size:=by
 subst b;refine⟨nT _ _ _ _ _,⟨⟨?_,?_,?_,?_⟩,⟨?_,?_,?_,?_⟩,?_⟩,⟨?_,?_,?_,?_⟩,?_⟩<;>simp[go_sem]
theorem Qj(N:Nat)(o:Option (Tm (N+1)))(a:ar)(d:Int)(e:aq)(xa:ar)(f xc:Nat)(c:Nat)(self:Int)(w:ag)(b:Hid (o=none)):ao 189 #[.agg #[ae a 4 c,ab self],.agg #[ab 6,ab d,af e,ae xa f xc]] w (kB (N+1) o w):=by
 go_enter func189,ntmps189;go_wp2_with fail;rw[b.out];exact ay (v:=.tuple #[.agg #[ab 0,ab 0,af .empty,ae none 0 0],.bool false]) (by simp[results,results189,go_sem];rfl) rfl (kZ (iP w _ _ _ _ _ _ _ _ _).1)
theorem Qk(N:Nat)(o:Option (Tm (N+1)))(a:ar)(p:Int)(q:aq)(xa:ar)(g xc:Nat)(c:Nat)(self:Int)(w:ag)(e:Hid (∀w1,am w w1->ao 202 #[.agg #[ae a 4 c,ab self],ae xa g xc] w1 (kB (N+1) o w1))):ao 189 #[.agg #[ae a 4 c,ab self],.agg #[ab 4,ab p,af q,ae xa g xc]] w (kB (N+1) o w):=by
 go_enter func189,ntmps189;go_wp2_with fail;refine(e _ (iP w _ _ _ _ _ _ _ _ _).1).mono ?_;rintro x z ⟨b,j,rfl,d⟩;have h:=ap ((iP w _ _ _ _ _ _ _ _ _).2.below d.1);have i:=λk l m n=>ap (xe (iP w _ _ _ _ _ _ _ _ _).1 (iB w.heap.size 2) (iP w _ _ _ _ _ _ _ _ _).2.2.2 d k l m n);obtain⟨⟨r,s,t,u⟩,⟨f0,f1,f2,f3⟩,y⟩:=h;have f:dG (N+1) b=.agg #[ab b.1.1,ab b.1.2.1,af b.1.2.2,ae b.2.1.1 b.2.2.length b.2.1.2]:=rfl;rw[f];clear d e f;go_wp2_with fail;exact ay (v:=.tuple #[.agg #[ab b.1.1,ab b.1.2.1,af b.1.2.2,ae b.2.1.1 b.2.2.length b.2.1.2],.bool j]) (by simp[results,results189,go_sem,r,s,t,u]) rfl (i _ _ _ _)
theorem PC(N:Nat)(o:Option (Tm (N+1)))(a:ar)(b:Int)(h:Int)(i:aq)(xa:ar)(j xc:Nat)(n:Nat)(r:n<=N)(x:Tm (n+1))(c:Nat)(self:Int)(w:ag)(E:¬b=4)(F:¬b=5)(G:¬b=6)(m:Hid (aJ ⟨n+1,x⟩))(f:Hid (∀w1,am w w1->ao 56 #[.agg #[ab b,ab h,af i,ae xa j xc]] w1 λe w'=>∃y:Tm (n+1),e=.returned (dG (n+1) y)/\Hid (am w1 w'/\In w'.heap.size w' (n+1) y/\cD (λq=>w1.heap.size<=q) (n+1) y/\aB (n+1) y (n+1) x=true)))(l:Hid (o=some (bf (N+1) (n+1) x))):ao 189 #[.agg #[ae a 4 c,ab self],.agg #[ab b,ab h,af i,ae xa j xc]] w (kB (N+1) o w):=by
 go_enter func189,ntmps189;go_wp2_with fail;refine(f _ (iP w _ _ _ _ _ _ _ _ _).1).mono ?_;rintro e I ⟨y,rfl,d⟩;have k:=ap ((iP w _ _ _ _ _ _ _ _ _).2.below d.1);have p:=λs t u z=>ap (xf r m (iP w _ _ _ _ _ _ _ _ _).1 (iB w.heap.size 2) (iP w _ _ _ _ _ _ _ _ _).2.2.2 d (aA _ _) true s t u z);obtain⟨⟨A,B,C,D⟩,⟨f0,f1,f2,f3⟩,H⟩:=k;have g:dG (n+1) y=.agg #[ab y.1.1,ab y.1.2.1,af y.1.2.2,ae y.2.1.1 y.2.2.length y.2.1.2]:=rfl;rw[g];clear d f g;go_wp2_with fail;rw[l.out];exact ay (v:=.tuple #[.agg #[ab y.1.1,ab y.1.2.1,af y.1.2.2,ae y.2.1.1 y.2.2.length y.2.1.2],.bool true]) (by simp[results,results189,go_sem,A,B,C,D]) rfl (p _ _ _ _)
theorem Ql(N:Nat)(o:Option (Tm (N+1)))(b bo:Nat)(k:Nat)(l:Int)(M:aq)(xa:ar)(Q xc:Nat)(n:Nat)(E:n<=N)(x:Tm (n+1))(c:Nat)(self:Int)(w:ag)(A:l=(k:Int))(ak:k<4)(aj:b<w.heap.size)(F:dH w b (bo+k*4) (n+1) x)(t:Hid (aJ ⟨n+1,x⟩))(s:Hid (∀w1,am w w1->ao 56 #[.agg #[ab x.1.1,ab x.1.2.1,af x.1.2.2,ae x.2.1.1 x.2.2.length x.2.1.2]] w1 λe w'=>∃y:Tm (n+1),e=.returned (dG (n+1) y)/\Hid (am w1 w'/\In w'.heap.size w' (n+1) y/\cD (λq=>w1.heap.size<=q) (n+1) y/\aB (n+1) y (n+1) x=true)))(p:Hid (∀w1,ao 197 #[.agg #[ab x.1.1,ab x.1.2.1,af x.1.2.2,ae x.2.1.1 x.2.2.length x.2.1.2]] w1 λe w'=>e=.returned (.bool (!(x.1.1==6)))/\am w1 w'))(r:Hid (o=if (!(x.1.1==6))=true then some (bf (N+1) (n+1) x)else none)):ao 189 #[.agg #[ae (some ⟨b,bo,none⟩) 4 c,ab self],.agg #[ab 5,ab l,af M,ae xa Q xc]] w (kB (N+1) o w):=by
 go_enter func189,ntmps189;obtain⟨K,L,O,P⟩:=F;subst A;generalize x.2.2.length=R at*;generalize (!(x.1.1==6))=cl at*;have al:(0:Int)<=(k:Int):=by omega
 have an:(k:Int)<4:=by omega
 have ah:b<w.heap.size+1:=by omega
 have ai:b<w.heap.size+1+1:=by omega
 go_wp2_with fail;generalize i:World.alloc (World.alloc (World.alloc (World.alloc w _) _) _) _=X;obtain⟨g,h,⟨Y,Z,aa,ad⟩,B⟩:=Nb i;have HB:=ap g;have f:=ap h;clear i g h K L O P;have z:∀y:Tm (n+1),dG (n+1) y=.agg #[ab y.1.1,ab y.1.2.1,af y.1.2.2,ae y.2.1.1 y.2.2.length y.2.1.2]:=λ_=>rfl
 go_region_held3 (λw'=>w'.cell? ⟨w.heap.size+1+1+1,0,none⟩=some (ab x.1.1)/\w'.cell? ⟨w.heap.size+1+1+1,1,none⟩=some (ab x.1.2.1)/\w'.cell? ⟨w.heap.size+1+1+1,2,none⟩=some (af x.1.2.2)/\w'.cell? ⟨w.heap.size+1+1+1,3,none⟩=some (ae x.2.1.1 R x.2.1.2))
  (go_keep) ((first|(go_at_call 56;refine(s _ HB.drew).mono ?_;rintro e j ⟨y,rfl,a⟩;rw[z];have C:=aw (dc a.1);have W:Hid (am w j):=(HB.drew).trans (a.1.mono HB.size);have au:w.heap.size+1+1+1<j.heap.size:=aW B a.1.size)|(go_at_call 197;refine(p _).mono ?_;rintro e ax ⟨rfl,d⟩;have D:=aw d;have m:=ap ((f.below (dc a.1)).below d);obtain⟨⟨S,T,U,V⟩,⟨f0,f1,f2,f3⟩,av⟩:=m)))
 have u:=λG H I J=>ap (xf E t HB.drew (iB w.heap.size 2) f.2.2 a d cl G H I J);clear a C D d;go_wp2_with fail;rw[r.out];exact ay (v:=.tuple #[.agg #[ab y.1.1,ab y.1.2.1,af y.1.2.2,ae y.2.1.1 y.2.2.length y.2.1.2],.bool cl]) (by simp[results,results189,go_sem,S,T,U,V]) rfl (u _ _ _ _)
def xJ(m n:Nat)(self:Int)(f:Tm n->Option (Tm (m+n)))(p:List (Tm n)):Option (Tm (m+n+1)):=
 if uF n p qu 0 then some (b8 3 self (m+n))
 else if uF n p xg 2 then (p[1]?).bind λa=>(p[2]?).bind λc=>(f a).bind λa=>(f c).bind λc=>uw (m+n) a c
 else if uF n p Dj 1 then (p[1]?).bind λa=>if aT n a then some (bf (m+n+1) n a)else none
 else (cZ f p).map (dx (m+n))
theorem Mi(m:Nat)(b:List (Tm m))(self:Int)(n:Nat)(x:Tm (n+1))(a:x.1.1=4):vl m b self (n+1) x=xJ m n self (λy=>vl m b self n y) x.2.2:=by simp[vl,a,xJ]
theorem Mg(m:Nat)(b:List (Tm m))(self:Int)(n:Nat)(x:Tm (n+1))(a:x.1.1=6):vl m b self (n+1) x=none:=by simp[vl,a]
theorem Gt(m:Nat)(b:List (Tm m))(self:Int)(n:Nat)(x:Tm (n+1))(a:x.1.1≠4)(c:x.1.1≠5)(d:x.1.1≠6):vl m b self (n+1) x=some (bf (m+n+1) (n+1) x):=by simp[vl,a,c,d]
theorem PF(m:Nat)(b:List (Tm m))(self:Int)(n:Nat)(x:Tm (n+1))(y:Tm m)(k:Nat)(a:x.1.1=5)(c:x.1.2.1=(k:Int))(d:b[k]?=some y):vl m b self (n+1) x=if cg ⟨m,y⟩=6 then none else some (bf (m+n+1) m y):=by
 simp[vl,a,c,d]
theorem BU{n:Nat}{p:List (Tm n)}{s:aq}{k:Nat}(a:uF n p s k=true):p.length=1+k:=by
 by_cases b:p.length=1+k
 ·exact b
 ·rw[F6 b]at a;cases a
theorem KV{N:Nat}{o:Option (Tm N)}(d:∀a,o=some a->aJ ⟨N,a⟩):PV o:=by
 intro a g e;have c:=d a g;cases N with
 | zero=>exact(dA c).elim
 | succ N=>
  have b:=c (bO N a) (by simp[aC,bO]);have f:a.1.1=1:=e;simp only[cQ,bO,f,rk,aK,dj]at b;exact⟨fP b.1.2.1,fP b.1.2.2⟩
theorem Fm(m:Nat)(b:List (Tm m))(self:Int)(O:gJ m b=true)(N:1<=self/\self<=99)(n:Nat)(ih:OM m b self n)(p:List (Tm n))(pa:ar)(pc:Nat)(a:ar)(c B:Nat)(w:ag)(L:p.length<=8)(f:fZ B w n p pa)(u:∀y∈p,aJ ⟨n,y⟩)(C:fZ B w m b a)(e:B<=w.heap.size):ao 202 #[.agg #[ae a 4 c,ab self],ae pa p.length pc] w (kB (m+n+1) (xJ m n self (λy=>vl m b self n y) p) w):=by
 have D:=λW k (Q:k<=8) g (d:am w g)=>Ee n p pa pc B W k g (f.below (d.mono e)) L Q;have i:=D qu 0 (by omega);have l:=D xg 2 (by omega);have q:=D Dj 1 (by omega);have K:∀y∈b,aJ ⟨m,y⟩:=λy h=>((iJ O).2 y h).2.1;cases e1:uF n p qu 0
 ·rw[e1]at i;cases e2:uF n p xg 2
  ·rw[e2]at l;cases e3:uF n p Dj 1
   ·rw[e3]at q;refine N8 (m+n) _ a c self pa p.length pc w i l q ?_;intro g d;have P:=Dc m b self n ih p p.length rfl pa pc a c B g L (f.below (d.mono e)) u (C.below (d.mono e)) (aF e d.size);simpa [xJ,e1,e2,e3]using P
   ·rw[e3]at q;have r:=BU e3;rcases f with f|⟨G,po,rfl,R,f⟩
    ·rw[f]at r;simp at r
    ·obtain⟨y,h⟩:∃y,p[1]?=some y:=⟨p[1]'(by omega),aN _⟩;obtain⟨t,v⟩:=f 1 y h;have s:=u y (aL h);have z:xJ m n self (λy=>vl m b self n y) p=if aT n y=true then some (bf (m+n+1) n y)else none:=by simp[xJ,e1,e2,e3,h]
     rw[z];cases n with
     | zero=>exact t.elim
     | succ n=>
     rw[show p.length=2 by omega]at i l q ⊢;refine PH (m+(n+1)) _ a c self G po n (by omega) y (aT (n+1) y) pc w i l q (by omega) (by simpa using t) s ?_ ?_ rfl
     ·intro g d;exact iL (n+1) y B g (v.below (d.mono e)) (aF e d.size) s
     ·intro g d;exact jk (n+1) y B g (v.below (d.mono e)) (aF e d.size)
  ·rw[e2]at l;have r:=BU e2;rcases f with f|⟨G,po,rfl,R,f⟩
   ·rw[f]at r;simp at r
   ·obtain⟨x,E⟩:∃x,p[1]?=some x:=⟨p[1]'(by omega),aN _⟩;obtain⟨y,h⟩:∃y,p[2]?=some y:=⟨p[2]'(by omega),aN _⟩;obtain⟨S,T⟩:=f 1 x E;obtain⟨t,v⟩:=f 2 y h;have M:=u x (aL E);have s:=u y (aL h);have z:xJ m n self (λy=>vl m b self n y) p=xG (vl m b self n x) (vl m b self n y):=by simp[xJ,e1,e2,E,h,xG]
    rw[z];have U:=KV λJ F=>xd m b self N K n x M J F;have V:=KV λJ F=>xd m b self N K n y s J F;cases n with
    | zero=>exact t.elim
    | succ n=>
    rw[show p.length=3 by omega]at i l ⊢;refine PG (m+(n+1)) _ a c self G po x.1.1 x.1.2.1 x.1.2.2 x.2.1.1 x.2.2.length x.2.1.2 y.1.1 y.1.2.1 y.1.2.2 y.2.1.1 y.2.2.length y.2.1.2 pc w i l (by omega) (by simpa [dH]using S) (by simpa [dH]using t) ?_;intro g d;refine LV (m+(n+1)) _ _ U V a c self x.1.1 x.1.2.1 x.1.2.2 x.2.1.1 x.2.2.length x.2.1.2 y.1.1 y.1.2.1 y.1.2.2 y.2.1.1 y.2.2.length y.2.1.2 g ?_ ?_
    ·intro H o;refine tS (m+n) _ a c self x.1.1 x.1.2.1 x.1.2.2 x.2.1.1 x.2.2.length x.2.1.2 H ?_;intro I A;have j:=(d.trans ((o.trans (A.mono o.size)).mono d.size));exact ih x a c B I (T.below (j.mono e)) M (C.below (j.mono e)) (aF e j.size)
    ·intro H o;refine tS (m+n) _ a c self y.1.1 y.1.2.1 y.1.2.2 y.2.1.1 y.2.2.length y.2.1.2 H ?_;intro I A;have j:=(d.trans ((o.trans (A.mono o.size)).mono d.size));exact ih y a c B I (v.below (j.mono e)) s (C.below (j.mono e)) (aF e j.size)
 ·rw[e1]at i;exact N9 (m+n) _ a c self ⟨by omega,by omega⟩ pa p.length pc w i (by simp[Hid,xJ,e1])
theorem Ju(m:Nat)(b:List (Tm m))(self:Int)(z:gJ m b=true)(J:1<=self/\self<=99)(n:Nat):OM m b self n:=by
 induction n with
 | zero=>intro x i c p o u;exact u.elim
 | succ n ih=>
  intro x i c p o u t g f;obtain⟨y,H⟩:=iJ z;have s:=t (bO n x) (by simp[aC,bO]);have I:x.2.2.length<=8:=mW (bO n x) s;by_cases r:x.1.1=6
  ·have e:=Qj (m+n) (vl m b self (n+1) x) i x.1.2.1 x.1.2.2 x.2.1.1 x.2.2.length x.2.1.2 c self o (Mg m b self n x r);rw[<-r]at e;exact e
  ·by_cases j:x.1.1=5
   ·have O:0<=x.1.2.1/\x.1.2.1<=3:=by
      have D:¬(5:Int)=1:=by decide
      have E:¬(5:Int)=2:=by decide
      have F:¬(5:Int)=3:=by decide
      have G:¬(5:Int)=4:=by decide
      simp only[cQ,bO,j,rk,aK,dj,D,E,F,G,if_false]at s;exact⟨fP s.1.2.1,fP s.1.2.2⟩
    obtain⟨k,A⟩:∃k:Nat,x.1.2.1=(k:Int):=⟨x.1.2.1.toNat,by omega⟩;obtain⟨a,l⟩:∃a,b[k]?=some a:=⟨b[k]'(by omega),aN _⟩;have v:=(H a (aL l)).2.1;have C:=PF m b self n x a k j A l;have M:=g;rcases g with g|⟨B,bo,rfl,N,g⟩
    ·rw[g]at y;simp at y
    ·obtain⟨K,L⟩:=g k a l;cases m with
     | zero=>exact(dA v).elim
     | succ m=>
     have e:=Ql (m+1+n) (vl (m+1) b self (n+1) x) B bo k x.1.2.1 x.1.2.2 x.2.1.1 x.2.2.length x.2.1.2 m (by omega) a c self o A (by omega) (by omega) K v
      (λh d=>iL (m+1) a p h (L.below (d.mono f)) (aF f d.size) v)
      (λh=>jQ a.1.1 a.1.2.1 a.1.2.2 a.2.1.1 a.2.2.length a.2.1.2 h)
      (by
       show vl (m+1) b self (n+1) x=_;rw[C];by_cases w:a.1.1=6
       ·simp[cg,w]
       ·simp[cg,w])
     rw[<-j]at e;exact e
   ·by_cases q:x.1.1=4
    ·have e:=Qk (m+n) (vl m b self (n+1) x) i x.1.2.1 x.1.2.2 x.2.1.1 x.2.2.length x.2.1.2 c self o (by
       intro h d;rw[Mi m b self n x q]
       exact Fm m b self z J n ih x.2.2 x.2.1.1 x.2.1.2 i c p h I (fZ.below (d.mono f) u.2) (λa l=>bj n x a t l) (g.below (d.mono f)) (aF f d.size))
     rw[<-q]at e;exact e
    ·exact PC (m+n) (vl m b self (n+1) x) i x.1.1 x.1.2.1 x.1.2.2 x.2.1.1 x.2.2.length x.2.1.2 n (by omega) x c self o q j r t
       (λh d=>iL (n+1) x p h (u.below (d.mono f)) (aF f d.size) t) (Gt m b self n x q j r)
def xj(N:Nat):Tm (N+1):=b8 0 0 N
def A2(N:Nat)(E:Int)(o:Option (Tm (N+1)))(w:ag)(e:Ending)(w':ag):Prop:=
 ∃a:Tm (N+1),e=.returned (.tuple #[dG (N+1) a,ab (Gj E (oE E o))])/\Hid (am w w'/\In w'.heap.size w' (N+1) a/\cD (λb=>w.heap.size<=b) (N+1) a/\aB (N+1) a (N+1) ((oE E o).getD (xj N))=true)
theorem pC{N:Nat}{E:Int}{o:Option (Tm (N+1))}{w w':ag}{a:Int}(c:am w w')(b:oE E o=none)(d:a=Gj E (oE E o)):A2 N E o w (.returned (.tuple #[.agg #[ab 0,ab 0,af .empty,ae none 0 0],ab a])) w':=by
 refine⟨xj N,by rw[d];rfl,c,(lS N 0 0 jP jP _ _ (λ_=>True)).1,(lS N 0 0 jP jP 0 w _).2,?_⟩;rw[b];exact yf N 0 0
theorem NT{N:Nat}{E:Int}{o:Option (Tm (N+1))}{a:Tm (N+1)}{w w1 w2 j:ag}{y:Tm (N+1)}{q:Nat}(e:E=0)(n:o=some a)(l:bJ (N+1) a=0)(f:am w w1)(p:w.heap.size<=q)(t:q<w1.heap.size)(h:am w1 w2)(r:In w2.heap.size w2 (N+1) y)(i:cD (λq=>w1.heap.size<=q) (N+1) y)(s:aB (N+1) y (N+1) a=true)(c:am w2 j)(v0 v1 v2 v3:au):A2 N E o w (.returned (.tuple #[.agg #[ab y.1.1,ab y.1.2.1,af y.1.2.2,ae y.2.1.1 y.2.2.length y.2.1.2],ab 0])) (df j q 0 v0 v1 v2 v3):=by
 have g:=f.size;have k:=(f.trans (h.mono g)).trans (c.mono (aF g h.size));have d:oE E o=some a:=by simp[oE,e,n,l]
 refine⟨y,by rw[d];simp[Gj,e,dG],du k p _ _ _ _,?_,i.mono λb m=>by omega,by rw[d];exact s⟩;rw[bG];exact In.off (P:=λb=>w1.heap.size<=b) (λb m=>bm (by omega) _ _ _ _) i ((r.below c).mono c.size)
theorem CI{c:Int}{bd:Bool}{self:Int}(a:Gk c bd self=0):c=0/\bd=true/\1<=self/\self<=99:=by
 unfold Gk at a;split at a
 ·split at a
  ·split at a
   ·rename_i b d e;exact⟨b,d,e⟩
   ·cases a
  ·cases a
 ·rename_i b;exact absurd a b
theorem Jt{m n:Nat}{b:List (Tm m)}{self:Int}{x:Tm (n+1)}{a:Tm (m+n+1)}(c:bJ (n+1) x=0)(d:gJ m b=true)(h:vl m b self (n+1) x=some a):(aC (m+n+1) a).length<=2097152:=by
 have f:=oG c;have e:=Dh m b self 201 (by omega) (λi g=>oG ((iJ d).2 i g).1) (n+1) x a h;have:201*(aC (n+1) x).length<=201*201:=Nat.mul_le_mul_left 201 f;exact aF e (by omega)
theorem uQ(w:ag)(a b c d:au)(t1 t2:TypeId):am w ((w.alloc (.cells #[a,b,c,d] t1)).alloc (.cells #[ab 0,ab 0,af .empty,ae none 0 0] t2))/\oy (w.heap.size+1) ((w.alloc (.cells #[a,b,c,d] t1)).alloc (.cells #[ab 0,ab 0,af .empty,ae none 0 0] t2)):=by
 refine⟨(aS _ _).alloc (by simp) _,⟨?_,?_,?_,?_⟩,⟨?_,?_,?_,?_⟩,?_⟩<;>simp[go_sem]
theorem Fl{w w':ag}{b c d e y0 y1 y2 f:au}{t1 t2:TypeId}(g:Below ((w.alloc (.cells #[b,c,d,e] t1)).alloc (.cells #[y0,y1,y2,f] t2)).heap.size ((w.alloc (.cells #[b,c,d,e] t1)).alloc (.cells #[y0,y1,y2,f] t2)) w'):ai w' w.heap.size 0 b/\ai w' w.heap.size 1 c/\ai w' w.heap.size 2 d/\ai w' w.heap.size 3 e:=by
 have a:=λo=>g.cell (p:=⟨w.heap.size,o,none⟩) (by simp;omega);exact⟨(a 0).trans (by simp[go_sem]),(a 1).trans (by simp[go_sem]),(a 2).trans (by simp[go_sem]),(a 3).trans (by simp[go_sem])⟩
theorem CJ(N:Nat)(o:Option (Tm (N+1)))(a:ar)(U c:Nat)(self:Int)(Z aa:Int)(ad:aq)(xa:ar)(ah xc:Nat)(l:Int)(bd:Bool)(w:ag)(aj:Hid (∀w1,am w w1->ao 53 #[.agg #[ab Z,ab aa,af ad,ae xa ah xc]] w1 λe w'=>e=.returned (ab l)/\am w1 w'))(ai:Hid (∀w1,am w w1->ao 183 #[ae a U c] w1 λe w'=>e=.returned (.bool bd)/\am w1 w'))(r:Hid (Gk l bd self=0->∀w1,am w w1->ao 189 #[.agg #[ae a U c,ab self],.agg #[ab Z,ab aa,af ad,ae xa ah xc]] w1 (kB (N+1) o w1)))(p:Hid (Gk l bd self=0->∀(y f:Tm (N+1))(w1:ag),o=some f->aB (N+1) y (N+1) f=true->In w1.heap.size w1 (N+1) y->ao 53 #[.agg #[ab y.1.1,ab y.1.2.1,af y.1.2.2,ae y.2.1.1 y.2.2.length y.2.1.2]] w1 λe w'=>e=.returned (ab (bJ (N+1) f))/\am w1 w')):ao 155 #[.agg #[ab Z,ab aa,af ad,ae xa ah xc],ae a U c,ab self] w (A2 N (Gk l bd self) o w):=by
 obtain⟨E,Q⟩:∃E,E=Gk l bd self:=⟨_,rfl⟩;rw[<-Q]at r p ⊢;have m:=ap Q;clear Q;go_enter func155,ntmps155;go_wp2_with fail;refine(aj _ (uQ w _ _ _ _ _ _).1).mono ?_;rintro e w1 ⟨rfl,I⟩;have au:=ap (Fl I);have A:Hid (am w w1):=(uQ w _ _ _ _ _ _).1.trans (I.mono (uQ w _ _ _ _ _ _).1.size);have F:=ap ((uQ w _ _ _ _ _ _).2.below I);clear I aj;by_cases d:l=0
 case neg=>
  have aJ:(l !=0)=true:=by simpa using d
  have b:Hid (E=l/\l≠0):=⟨by rw[m.out];simp[Gk,d],d⟩;obtain⟨⟨g,h,i,j⟩,⟨f0,f1,f2,f3⟩,x⟩:=F.out;clear r m d p;go_wp2_with fail;exact ay (v:=.tuple #[.agg #[ab 0,ab 0,af .empty,ae none 0 0],ab l]) (by simp[results,results155,go_sem,g,h,i,j];rfl) rfl (pC (du A (by omega) _ _ _ _) (by simp[oE,b.out.1,b.out.2]) (by simp[Gj,b.out.1,b.out.2]))
 have aJ:(l !=0)=false:=by simp[d]
 go_wp2_with fail;refine(ai _ A).mono ?_;rintro e aA ⟨rfl,J⟩;have av:=ap (oF (Nat.lt_of_succ_lt F.2.2) J au);have n:Hid (am w aA):=A.trans (J.mono A.size);have q:=ap (F.below J);clear J ai A au F;cases bd
 ·have b:Hid (E=5):=by rw[Hid,m.out];simp[Gk,d]
  obtain⟨⟨g,h,i,j⟩,⟨f0,f1,f2,f3⟩,x⟩:=q.out;clear r m d p;go_wp2_with fail;exact ay (v:=.tuple #[.agg #[ab 0,ab 0,af .empty,ae none 0 0],ab 5]) (by simp[results,results155,go_sem,g,h,i,j];rfl) rfl (pC (du n (by omega) _ _ _ _) (by simp[oE,b.out]) (by simp[Gj,b.out]))
 ·by_cases ax:self<1
  ·have aF:decide (self<1)=true:=by simpa using ax
   have b:Hid (E=1):=by rw[Hid,m.out];simp only[Gk,d,dj];rw[if_neg (by omega)]
   obtain⟨⟨g,h,i,j⟩,⟨f0,f1,f2,f3⟩,x⟩:=q.out;clear r m d p;go_wp2_with fail;exact ay (v:=.tuple #[.agg #[ab 0,ab 0,af .empty,ae none 0 0],ab 1]) (by simp[results,results155,go_sem,g,h,i,j];rfl) rfl (pC (du n (by omega) _ _ _ _) (by simp[oE,b.out]) (by simp[Gj,b.out]))
  ·have aF:decide (self<1)=false:=by simpa using ax
   by_cases az:99<self
   ·have aG:decide (99<self)=true:=by simpa using az
    have b:Hid (E=1):=by rw[Hid,m.out];simp only[Gk,d,dj];rw[if_neg (by omega)]
    obtain⟨⟨g,h,i,j⟩,⟨f0,f1,f2,f3⟩,x⟩:=q.out;clear r m d p;go_wp2_with fail;exact ay (v:=.tuple #[.agg #[ab 0,ab 0,af .empty,ae none 0 0],ab 1]) (by simp[results,results155,go_sem,g,h,i,j];rfl) rfl (pC (du n (by omega) _ _ _ _) (by simp[oE,b.out]) (by simp[Gj,b.out]))
   ·have aG:decide (99<self)=false:=by simpa using az
    have B:Hid (E=0):=by rw[Hid,m.out];simp only[Gk,d,dj];rw[if_pos (by omega)]
    obtain⟨aN,aO,aP,aQ⟩:=av.out;have aT:w.heap.size<aA.heap.size:=Nat.lt_of_succ_lt q.2.2;clear m d;go_wp2_with fail;refine(r B _ n).mono ?_;rintro e z ⟨y,aM,rfl,k⟩;have K:Hid (am w z):=n.trans (k.1.mono n.size);have G:=ap (q.below k.1);have aw:dG (N+1) y=.agg #[ab y.1.1,ab y.1.2.1,af y.1.2.2,ae y.2.1.1 y.2.2.length y.2.1.2]:=rfl;rw[aw];clear r aw aN aO aP aQ av;cases aM
    ·have ak:Hid (o=none):=by
       have:=k.2.2.2.1;cases o with
       | none=>rfl
       | some f=>cases this
     obtain⟨⟨g,h,i,j⟩,⟨f0,f1,f2,f3⟩,x⟩:=G.out;clear k p;go_wp2_with fail;exact ay (v:=.tuple #[.agg #[ab 0,ab 0,af .empty,ae none 0 0],ab 7]) (by simp[results,results155,go_sem,g,h,i,j,x];rfl) rfl (pC ((du K (by omega) _ _ _ _).alloc (by rw[bG];omega) _) (by simp[oE,ak.out]) (by simp[Gj,oE,ak.out,B.out]))
    ·obtain⟨f,T⟩:∃f,o=some f:=by
       have:=k.2.2.2.1;cases o with
       | none=>cases this
       | some f=>exact⟨f,rfl⟩
     have H:=ap T;have an:=ap (k.2.2.2.2 f T)
     have O:Hid (∀w1,am z w1->ao 53 #[.agg #[ab y.1.1,ab y.1.2.1,af y.1.2.2,ae y.2.1.1 y.2.2.length y.2.1.2]] w1 λe w'=>e=.returned (ab (bJ (N+1) f))/\am w1 w'):=
      λw1 t=>p B y f w1 H an ((k.2.1.below t).mono t.size)
     obtain⟨s,S⟩:∃s,s=bJ (N+1) f:=⟨_,rfl⟩;rw[<-S]at O;have M:=ap S;have P:=λ(D:ag)(aI:am z D)(aH:s=0) V W X Y=>ap (NT (E:=E) B H (M.symm.trans aH) n (iB _ 1) q.2.2 k.1 k.2.1 k.2.2.1 an aI V W X Y);clear T S p k q n;go_wp2_with fail;refine(O _ (aS _ _)).mono ?_;rintro e D ⟨rfl,R⟩;obtain⟨⟨t0,t1,t2,t3⟩,_⟩:=FD R;have L:Hid (am z D):=(aS _ _).trans (R.mono (by simp));have aC:=ap (G.below L);have aE:Hid (am w D):=K.trans (L.mono K.size);obtain⟨⟨g,h,i,j⟩,⟨f0,f1,f2,f3⟩,x⟩:=aC;have aL:¬(w.heap.size+1=z.heap.size):=by have:=G.2.2;omega
     have aR:¬(z.heap.size=w.heap.size+1):=λe=>aL e.symm;clear R O G;by_cases u:s=0
     ·have aK:(s !=0)=false:=by simp[u]
      have aD:=λV W X Y=>P D L u V W X Y;clear P u;go_wp2_with fail;exact ay (v:=.tuple #[.agg #[ab y.1.1,ab y.1.2.1,af y.1.2.2,ae y.2.1.1 y.2.2.length y.2.1.2],ab 0]) (by simp[results,results155,go_sem,g,h,i,j]) rfl (aD _ _ _ _)
     ·have aK:(s !=0)=true:=by simpa using u
      have al:=ap u;clear P u;go_wp2_with fail;exact ay (v:=.tuple #[.agg #[ab 0,ab 0,af .empty,ae none 0 0],ab 7]) (by simp[results,results155,go_sem,g,h,i,j];rfl) rfl (pC (du aE (by omega) _ _ _ _) (by have t:=M.out;have C:=al.out;rw[t]at C;simp[oE,H.out,C]) (by have t:=M.out;have C:=al.out;rw[t]at C;simp[Gj,oE,H.out,B.out,C]))
theorem EN(n m:Nat)(x:Tm (n+1))(b:List (Tm m))(a:ar)(c B:Nat)(self:Int)(w:ag)(p:In B w (n+1) x)(k:fZ B w m b a)(f:B<=w.heap.size)(r:(aC (n+1) x).length<=2097152)(t:b.length<=9223372036854775807)(s:∀y∈b,(aC m y).length<=2097152):ao 155 #[dG (n+1) x,ae a b.length c,ab self] w (A2 (m+n) (Gk (bJ (n+1) x) (gJ m b) self) (vl m b self (n+1) x) w):=by
 refine CJ (m+n) _ a b.length c self x.1.1 x.1.2.1 x.1.2.2 x.2.1.1 x.2.2.length x.2.1.2 (bJ (n+1) x) (gJ m b) w ?_ ?_ ?_ ?_
 ·intro e d;exact eq (n+1) x B e (p.below (d.mono f)) (aF f d.size) r
 ·intro e d;exact A9 m b a c B e (k.below (d.mono f)) t s (aF f d.size)
 ·intro i e d;obtain⟨h,g,j⟩:=CI i;have q:=(iJ g).1;rw[q];exact Ju m b self g j (n+1) x a c B e (p.below (d.mono f)) (aU.2 (bM.1 h).1) (k.below (d.mono f)) (aF f d.size)
 ·intro i y A e z o u;obtain⟨h,g,j⟩:=CI i;have v:=Jt h g z;have l:=eq (m+n+1) y e.heap.size e u (av _) (by rw[kX _ _ _ _ o];exact v);rw[cd o]at l;exact l
theorem CN{n m b a:Nat}{x:Tm n}{y:Tm m}{x':Tm b}{c:Tm a}(e:aB n x b x'=true)(k:aB m y a c=true):aB n x m y=aB b x' a c:=by
 cases d:aB b x' a c with
 | true=>exact bS _ _ _ _ _ _ e (bS _ _ _ _ _ _ d (dX _ _ _ _ k))
 | false=>
  cases e2:aB n x m y with
  | false=>rfl
  | true=>
   have f:=bS _ _ _ _ _ _ (dX _ _ _ _ e) (bS _ _ _ _ _ _ e2 k);rw[d]at f;cases f
def oV:Option (List An)->Option (List An)->Prop
 | none,none=>True
 | some b,some c=>aG eL b c=true
 | _,_=>False
theorem vL{x y:An}(a:eL x y=true):cg x=cg y:=by
 obtain⟨n,x⟩:=x;obtain⟨b,y⟩:=y;cases n with
 | zero=>simp[eL,aB]at a
 | succ n=>
  cases b with
  | zero=>simp[eL,aB]at a
  | succ b=>
   simp only[eL,aB,aK,cv]at a;exact a.1.1.1
theorem uZ{c β:Type}{f:c->β->Bool}{a:c}{b:β}(d:f a b=true):(p:List c)->(q:List β)->(i:Nat)->aG f p q=true->aG f (p.set i a) (q.set i b)=true
 | [],[],_,_=>by simp[aG]
 | [],_::_,_,h=>by simp[aG]at h
 | _::_,[],_,h=>by simp[aG]at h
 | x::p,y::q,0,h=>by
  simp only[aG,aK]at h;simp[aG,d,h.2]
 | x::p,y::q,i+1,h=>by
  simp only[aG,aK]at h;simp[aG,h.1,uZ d p q i h.2]
theorem DV{b c:List An}{i:Nat}{t h:An}(f:aG eL b c=true)(j:eL t h=true):oV (vz b i t) (vz c i h):=by
 have o:=cW _ _ _ f;unfold vz;cases e:b[i]? with
 | none=>
  have a:c[i]?=none:=by
   rw[List.getElem?_eq_none_iff]at e ⊢;omega
  rw[a];trivial
 | some g=>
  obtain⟨n,m⟩:=aZ.1 e;have a:c[i]?=some c[i]:=aN (by omega);rw[a];have k:eL g c[i]=true:=jV _ _ _ f i _ _ e a;simp only;rw[<-vL k];by_cases d:cg g=6
  ·rw[if_pos d,if_pos d];exact uZ j _ _ _ f
  ·rw[if_neg d,if_neg d];have l:eL g t=eL c[i] h:=CN k j;rw[<-l];cases eL g t
   ·simp[oV]
   ·simpa [oV]using f
theorem vy{n β o r:Type}(f:n->β->List An->Option (List An))(g:o->r->List An->Option (List An))(P:n->o->Bool)(Q:β->r->Bool):(p:List n)->(q:List β)->(a:List o)->(h:List r)->(∀x∈p,∀y∈q,∀x' k b c,P x x'=true->Q y k=true->aG eL b c=true->oV (f x y b) (g x' k c))->aG P p a=true->aG Q q h=true->∀b c,aG eL b c=true->oV (jg f p q b) (jg g a h c)
 | [],_,a,_,_,i,_,b,c,l=>by
  cases a with
  | nil=>simpa [jg,oV]using l
  | cons _ _=>simp[aG]at i
 | x::p,[],a,h,_,i,j,b,c,l=>by
  cases h with
  | nil=>cases a<;>simpa [jg,oV]using l
  | cons _ _=>simp[aG]at j
 | x::p,y::q,a,h,hf,i,j,b,c,l=>by
  cases a with
  | nil=>simp[aG]at i
  | cons x' a=>
   cases h with
   | nil=>simp[aG]at j
   | cons k h=>
    simp only[aG,aK]at i j;have e:=hf x (by simp) y (by simp) x' k b c i.1 j.1 l;simp only[jg];cases e1:f x y b with
    | none=>
     rw[e1]at e;cases m:g x' k c with
     | none=>simp[oV]
     | some _=>rw[m]at e;exact e.elim
    | some d=>
     rw[e1]at e;cases m:g x' k c with
     | none=>rw[m]at e;exact e.elim
     | some s=>
      rw[m]at e;simp only[dU];exact vy f g P Q p q a h (λx t y u=>hf x (by simp[t]) y (by simp[u])) i.2 j.2 d s e
theorem mV:(n:Nat)->(p:Tm n)->(m:Nat)->(t:Tm m)->(d:Nat)->(j:Tm d)->(a:Nat)->(k:Tm a)->(b c:List An)->aB n p d j=true->aB m t a k=true->aG eL b c=true->oV (iG n p m t b) (iG d j a k c)
 | 0,_,_,_,_,_,_,_,_,_,h,_,_=>by simp[aB]at h
 | _+1,_,_,_,0,_,_,_,_,_,h,_,_=>by simp[aB]at h
 | _+1,_,0,_,_+1,_,_,_,_,_,_,h,_=>by simp[aB]at h
 | _+1,_,_+1,_,_+1,_,0,_,_,_,_,h,_=>by simp[aB]at h
 | n+1,p,m+1,t,d+1,j,a+1,k,b,c,hp,ht,hb=>by
  have u:=hp;have l:=ht;simp only[aB,aK,cv]at hp ht;obtain⟨⟨⟨v,w⟩,A⟩,o⟩:=hp;obtain⟨⟨⟨t1,t2⟩,t3⟩,t4⟩:=ht;unfold iG;rw[<-v,<-w,<-t1,<-cW _ _ _ o,<-cW _ _ _ t4];by_cases g:p.1.1=6
  ·rw[if_pos g,if_pos g];exact hb
  ·rw[if_neg g,if_neg g];by_cases f:p.1.1=5
   ·rw[if_pos f,if_pos f];exact DV hb l
   ·rw[if_neg f,if_neg f];by_cases e:p.1.1=4
    ·rw[if_pos e,if_pos e];by_cases i:t.1.1=4/\p.2.2.length=t.2.2.length
     ·rw[if_pos i,if_pos i];exact vy _ _ (λx y=>aB n x d y) (λx y=>aB m x a y) p.2.2 t.2.2 j.2.2 k.2.2 (λx _ y _ x' z b c q r s=>mV n x m y d x' a z b c q r s) o t4 b c hb
     ·rw[if_neg i,if_neg i];trivial
    ·rw[if_neg e,if_neg e,<-CN u l];cases aB (n+1) p (m+1) t
     ·simp[oV]
     ·simpa [oV]using hb
theorem BP{w w':ag}{g:Nat}(c:w.grownBy w' (some g)):∀b o,b<w.heap.size->b≠g->w'.cell? ⟨b,o,none⟩=w.cell? ⟨b,o,none⟩:=
 λb o d e=>World.cell?_of_block (a:=⟨b,o,none⟩) (c.block b d (by simpa using e))
theorem rP{w w':ag}{row:da}(a:w.drew.grownBy w' row):w.grownBy w' row:=⟨a.os,a.tape,a.output,a.size,a.block⟩
theorem G8(p q:Nat)(a d:ar)(pc h:Nat)(g c:Nat)(base:Nat)(w:ag)(_hpc:p<=9223372036854775807)(_hqc:q<=9223372036854775807)(f:((p:Int)==(q:Int))=false):ao 199 #[ae (some ⟨g,0,none⟩) 4 c,ae a p pc,ae d q h] w (fj base g c none w):=by
 have i:((p:Int) !=(q:Int))=true:=by simpa using f
 go_enter func199,ntmps199;go_wp2_with fail
 go_ret
 exact⟨rfl,g8 _ _,λb e=>by cases e⟩
theorem vx(a e:ar)(pc i:Nat)(g c:Nat)(base:Nat)(b:List An)(w:ag)(H:nL base g c b w):ao 199 #[ae (some ⟨g,0,none⟩) 4 c,ae a 0 pc,ae e 0 i] w (fj base g c (some b) w):=by
 have d:=ap H;clear H;go_enter func199,ntmps199;go_wp2_with fail
 go_loop [16] (λh=>h=ab 0) (λ_=>0)
 case atStart=>rfl
 case round=>
  obtain rfl:=hrel;go_wp2_with fail
  go_ret
  exact⟨rfl,g8 _ _,λj f=>by obtain rfl:=az f;exact d⟩
theorem G7(n m:Nat)(ih:OJ n)(p:List (Tm n))(q:List (Tm m))(len:Nat)(ad:Hid (p.length=len))(ay:Hid (q.length=len))(K po d j pc aA:Nat)(b:List An)(base g c B:Nat)(w:ag)(aG:len<=9223372036854775807)(aw:K<B)(ax:d<B)(aa:∀(i:Nat)(y:Tm n),p[i]?=some y->dH w K (po+i*4) n y/\In B w n y)(ah:∀(i:Nat)(y:Tm m),q[i]?=some y->dH w d (j+i*4) m y/\In B w m y)(ai:∀y∈p,aJ ⟨n,y⟩)(aj:∀y∈q,aJ ⟨m,y⟩)(V:Hid (Dt B w b))(U:B<=base)(H:Hid (nL base g c b w)):ao 199 #[ae (some ⟨g,0,none⟩) 4 c,ae (some ⟨K,po,none⟩) len pc,ae (some ⟨d,j,none⟩) len aA] w (fj base g c (jg (λx y b=>iG n x m y b) p q b) w):=by
 have W:B<=g:=aF U H.out.lt.1;have X:g<w.heap.size:=H.out.lt.2;go_enter func199,ntmps199;go_wp2_with fail;go_loopw [16] (λi wr=>∃k:Nat,k<=len/\i=ab k/\Hid (w.grownBy wr (some g)/\∃a,nL base g c a wr/\Dt B wr a/\jg (λx y b=>iG n x m y b) (p.drop k) (q.drop k) a=jg (λx y b=>iG n x m y b) p q b)) (λi _=>len-(intOf i).toNat)
 case atStart=>exact⟨0,by omega,rfl,g8 _ _,b,H.out,V.out,rfl⟩
 case round=>
  obtain⟨k,aC,rfl,v⟩:=hrel;by_cases Z:k<len
  ·obtain⟨x,E⟩:∃x,p[k]?=some x:=⟨p[k]'(by rw[ad.out];exact Z),aN _⟩;obtain⟨y,I⟩:∃y,q[k]?=some y:=⟨q[k]'(by rw[ay.out];exact Z),aN _⟩;obtain⟨l,a,L,u,t⟩:Hid (w.grownBy wr (some g))/\∃a,Hid (nL base g c a wr)/\Hid (Dt B wr a)/\Hid (jg (λx y b=>iG n x m y b) (p.drop k) (q.drop k) a=jg (λx y b=>iG n x m y b) p q b):=v.out;clear v;obtain⟨F,G⟩:=aa k x E;obtain⟨J,r⟩:=ah k y I;have z:=ap (Hb (λx y b=>iG n x m y b) p q k x y E I a);have T:=ap (ai x (aL E));have N:=ap (aj y (aL I));have o:=oJ l.out W X;replace F:=F.below o aw;replace J:=J.below o ax;replace G:=G.below o;replace r:=r.below o;have aB:g<wr.heap.size:=aW X l.out.size;have D:B<=wr.heap.size:=by omega
   clear aa ah E I ai aj V H o;cases n with
   | zero=>exact F.elim
   | succ n=>
   cases m with
   | zero=>exact J.elim
   | succ m=>
   obtain⟨aP,aQ,aR,aT⟩:=F;obtain⟨y0,y1,y2,aU⟩:=J
   have Q:Hid (∀(h:ag),am wr h->ao 185 #[ae (some ⟨g,0,none⟩) 4 c,.agg #[ab x.1.1,ab x.1.2.1,af x.1.2.2,ae x.2.1.1 x.2.2.length x.2.1.2],.agg #[ab y.1.1,ab y.1.2.1,af y.1.2.2,ae y.2.1.1 y.2.2.length y.2.1.2]] h (fj base g c (iG (n+1) x (m+1) y a) h)):=
    λh C=>ih x (m+1) y a base g c B h (G.below (C.mono D)) (r.below (C.mono D)) T.out N.out (u.out.below (C.mono D)) U (L.out.below C)
   have M:Hid (∀s e,iG (n+1) x (m+1) y a=s->s=some e->Dt B wr e):=λs e ar au=>u.out.fit r N.out (ar.trans au);clear ih G r T N u;replace z:Hid (jg (λx y b=>iG (n+1) x (m+1) y b) (p.drop k) (q.drop k) a=(iG (n+1) x (m+1) y a).bind (jg (λx y b=>iG (n+1) x (m+1) y b) (p.drop (k+1)) (q.drop (k+1)))):=z;generalize iG (n+1) x (m+1) y a=s at*;generalize x.2.2.length=ak at*;generalize y.2.2.length=yl at*;have aD:(0:Int)<=(k:Int):=by omega
   have aE:(k:Int)<(len:Int):=by omega
   have aH:K<wr.heap.size:=by omega
   have aK:d<wr.heap.size:=by omega
   have aM:d<wr.heap.size+1:=by omega
   have aI:d≠g:=by omega
   have aO:wr.heap.size≠g:=by omega
   have al:=ap (Q.out (wr.alloc (.cells #[ab x.1.1,ab x.1.2.1,af x.1.2.2,ae x.2.1.1 ak x.2.1.2] 31)).drew ((aS _ _).drew));clear Q;go_wp2_with fail
   go_region_held3 (λf=>f.cell? ⟨wr.heap.size,0,none⟩=some (ab x.1.1)/\f.cell? ⟨wr.heap.size,1,none⟩=some (ab x.1.2.1)/\f.cell? ⟨wr.heap.size,2,none⟩=some (af x.1.2.2)/\f.cell? ⟨wr.heap.size,3,none⟩=some (ae x.2.1.1 ak x.2.1.2)
       /\f.cell? ⟨d,j+k*4,none⟩=some (ab y.1.1)/\f.cell? ⟨d,j+k*4+1,none⟩=some (ab y.1.2.1)/\f.cell? ⟨d,j+k*4+2,none⟩=some (af y.1.2.2)/\f.cell? ⟨d,j+k*4+3,none⟩=some (ae y.2.1.1 yl y.2.1.2))
    (go_keep) ((go_at_call 185;refine al.out.mono ?_;rintro A h ⟨rfl,O,Y⟩;have av:=BP (rP O);have R:=ap (rP O);have an:=ap Y;clear O Y))
   have S:Hid (w.grownBy h (some g)):=mj l.out (mj (di wr _ _) R.out);clear av;cases s with
   | some e=>
    have aq:Hid (Dt B h e):=(M.out _ e rfl rfl).below (((aS _ _).mono D).trans (oJ R.out W (by simp;omega)));clear M;simp only[nF];go_wp2_with fail;go_roundw
    case rel=>exact⟨k+1,by omega,by go_num,S.out,e,an.out e rfl,aq.out,by rw[<-t.out,z.out];rfl⟩
    case measure=>simp[intOf];omega
   | none=>
    clear M;simp only[nE];go_wp2_with fail
    go_ret
    have P:jg (λx y b=>iG (n+1) x (m+1) y b) p q b=none:=by rw[<-t.out,z.out];rfl
    rw[P];exact⟨rfl,S.out,λa A=>by cases A⟩
  ·obtain⟨l,a,L,u,t⟩:Hid (w.grownBy wr (some g))/\∃a,Hid (nL base g c a wr)/\Hid (Dt B wr a)/\Hid (jg (λx y b=>iG n x m y b) (p.drop k) (q.drop k) a=jg (λx y b=>iG n x m y b) p q b):=v.out;clear v;go_wp2_with fail
   go_ret
   have P:jg (λx y b=>iG n x m y b) p q b=some a:=by rw[<-t.out,gt (by rw[ad.out];omega)];rfl
   rw[P];exact⟨rfl,l.out,λe A=>by obtain rfl:=az A;exact L.out⟩
theorem DU(n m:Nat)(ih:OJ n)(p:List (Tm n))(q:List (Tm m))(a e:ar)(pc j:Nat)(b:List An)(base g c B:Nat)(w:ag)(f:p=[]\/∃b o,a=some ⟨b,o,none⟩/\b<B/\∀(i:Nat)(y:Tm n),p[i]?=some y->dH w b (o+i*4) n y/\In B w n y)(h:q=[]\/∃b o,e=some ⟨b,o,none⟩/\b<B/\∀(i:Nat)(y:Tm m),q[i]?=some y->dH w b (o+i*4) m y/\In B w m y)(u:p.length<=9223372036854775807)(A:q.length<=9223372036854775807)(C:∀y∈p,aJ ⟨n,y⟩)(D:∀y∈q,aJ ⟨m,y⟩)(r:Dt B w b)(l:B<=base)(H:nL base g c b w):ao 199 #[ae (some ⟨g,0,none⟩) 4 c,ae a p.length pc,ae e q.length j] w (fj base g c (if p.length=q.length then jg (λx y b=>iG n x m y b) p q b else none) w):=by
 by_cases d:p.length=q.length
 ·rw[if_pos d];rcases f with f|⟨E,po,rfl,t,f⟩
  ·subst f;have v:q=[]:=bL d.symm;subst v;exact vx a e pc j g c base b w H
  ·rcases h with h|⟨F,G,rfl,z,h⟩
   ·subst h;have s:p=[]:=bL d;subst s;exact vx _ e pc j g c base b w H
   ·have k:=G7 n m ih p q p.length rfl d.symm E po F G pc j b base g c B w (by omega) t z f h C D r l H;rw[<-d];exact k
 ·rw[if_neg d];exact G8 p.length q.length a e pc j g c base w u A (by simp;omega)
theorem fj.from{base g c:Nat}{o:Option (List An)}{w w1:ag}(a:w.grownBy w1 (some g)){e:Ending}{w2:ag}(k:fj base g c o w1 e w2):fj base g c o w e w2:=
 ⟨k.1,mj a k.2.1,k.2.2⟩
theorem He(k E j F:Int)(s C:aq)(a t:ar)(l u pc v:Nat)(base g c:Nat)(b:List An)(o p:Option (List An))(D:Bool)(w:ag)(I:Hid (nL base g c b w))(q:Hid (k=5->∀w1,am w w1->ao 198 #[ae (some ⟨g,0,none⟩) 4 c,ab E,.agg #[ab j,ab F,af C,ae t u v]] w1 (fj base g c o w1)))(H:Hid (∀w1,am w w1->ao 199 #[ae (some ⟨g,0,none⟩) 4 c,ae a l pc,ae t u v] w1 (fj base g c p w1)))(N:Hid (∀w1,am w w1->ao 200 #[.agg #[ab k,ab E,af s,ae a l pc],.agg #[ab j,ab F,af C,ae t u v]] w1 λe w'=>∃r,e=.returned (ab r)/\Hid ((r==0)=D)/\am w1 w')):ao 185 #[ae (some ⟨g,0,none⟩) 4 c,.agg #[ab k,ab E,af s,ae a l pc],.agg #[ab j,ab F,af C,ae t u v]] w (fj base g c (if k=6 then some b else if k=5 then o else if k=4 then (if j=4 then p else none)else if D then some b else none) w):=by
 have L:∀o p,am w ((w.alloc o).alloc p):=λo p=>(aS _ _).alloc (by simp) _;have f:=ap L;clear L;by_cases i:k=6
 ·rw[if_pos i];subst i;go_enter func185,ntmps185;go_wp2_with fail
  go_ret
  exact⟨rfl,dg (f _ _) _,λA e=>by obtain rfl:=az e;exact I.below (f _ _)⟩
 rw[if_neg i];have S:(k==6)=false:=by simpa using i
 by_cases d:k=5
 ·rw[if_pos d];have O:=ap (q d);have R:(k==5)=true:=by simpa using d
  clear d i q;go_enter func185,ntmps185;go_wp2_with fail;refine(O _ (f _ _)).mono ?_;rintro e w1 n;have x:=ap (fj.from (dg (f _ _) _) n);obtain⟨rfl,_,_⟩:=n;go_wp2_with fail
  go_ret
  exact x
 rw[if_neg d];have R:(k==5)=false:=by simpa using d
 by_cases h:k=4
 ·rw[if_pos h];have P:(k==4)=true:=by simpa using h
  clear d i q;by_cases m:j=4
  ·rw[if_pos m];have Q:(j==4)=true:=by simpa using m
   clear h m;go_enter func185,ntmps185;go_wp2_with fail;refine(H _ (f _ _)).mono ?_;rintro e w1 n;have x:=ap (fj.from (dg (f _ _) _) n);obtain⟨rfl,_,_⟩:=n;go_wp2_with fail
   all_goals go_ret
   all_goals exact x
  ·rw[if_neg m];have Q:(j==4)=false:=by simpa using m
   clear h m;go_enter func185,ntmps185;go_wp2_with fail
   go_ret
   exact⟨rfl,dg (f _ _) _,λA e=>by cases e⟩
 rw[if_neg h];have P:(k==4)=false:=by simpa using h
 clear h d i q H;obtain⟨M,B⟩:∃M,M=if D then some b else none:=⟨_,rfl⟩
 rw[<-B];have G:=ap B;clear B;go_enter func185,ntmps185;go_wp2_with fail;refine(N _ (f _ _)).mono ?_;rintro e w1 ⟨r,rfl,J,K⟩;have z:Hid (am w w1):=(f _ _).trans (K.mono (f _ _).size);have y:=ap G.out;rw[Hid,<-J.out]at y;clear K J G;cases h0:r==0
 ·go_wp2_with fail
  go_ret
  have d:=y;rw[h0]at d;simp only[pK,if_false]at d;subst d;exact⟨rfl,dg z _,λA e=>by cases e⟩
 ·go_wp2_with fail
  go_ret
  have d:=y;rw[h0]at d;simp only[dj]at d;subst d;exact⟨rfl,dg z _,λA e=>by obtain rfl:=az e;exact I.below z⟩
theorem O9(n:Nat)(p:Tm (n+1))(m:Nat)(t:Tm (m+1))(b:List An):iG (n+1) p (m+1) t b=if p.1.1=6 then some b else if p.1.1=5 then vz b p.1.2.1.toNat ⟨m+1,t⟩else if p.1.1=4 then (if t.1.1=4 then (if p.2.2.length=t.2.2.length then jg (λx y b=>iG n x m y b) p.2.2 t.2.2 b else none)else none)else if aB (n+1) p (m+1) t then some b else none:=by
 simp only[iG];by_cases a:t.1.1=4<;>by_cases c:p.2.2.length=t.2.2.length<;>simp[a,c]
theorem PD(n:Nat)(p:Tm (n+1))(d:aJ ⟨n+1,p⟩)(e:p.1.1=5):∃k:Nat,k<4/\p.1.2.1=k:=by
 have a:=d (bO n p) (by simp[aC,bO]);have b:(bO n p).1.1=5:=e;have c:(bO n p).1.2.1=p.1.2.1:=rfl;simp[cQ,b,rk]at a;rw[c]at a;exact⟨p.1.2.1.toNat,by omega,by omega⟩
theorem Kv(n:Nat):OJ n:=by
 induction n with
 | zero=>intro e j t b s u c l y d;exact d.elim
 | succ n ih=>
  intro e j t b s u c l y d v w x i z r;cases j with
  | zero=>exact v.elim
  | succ j=>
  have f:l<=y.heap.size:=by have:=r.lt;omega
  have C:=d;have H:=v;obtain⟨⟨_,_,_,I,D⟩,E⟩:=C;obtain⟨⟨_,_,_,J,F⟩,G⟩:=H;unfold maxLen at D F;rw[O9];refine He e.1.1 e.1.2.1 t.1.1 t.1.2.1 e.1.2.2 t.1.2.2 e.2.1.1 t.2.1.1 e.2.2.length t.2.2.length e.2.1.2 t.2.1.2 s u c b _ _ _ y r ?_ ?_ ?_
  ·intro A q a;obtain⟨k,B,m⟩:=PD n e w A;rw[m];exact Kz b s u c l q k B j t (i.below (a.mono f)) (v.below (a.mono f)) x z (r.below a)
  ·intro q a;refine DU n j ih e.2.2 t.2.2 e.2.1.1 t.2.1.1 e.2.1.2 t.2.1.2 b s u c l q ?_ ?_ (by omega) (by omega) (λh g=>bj n e h w g) (λh g=>bj j t h x g) (i.below (a.mono f)) z (r.below a)
   ·rcases E with d|⟨b,o,m,i,d⟩
    ·exact aj d
    ·exact ak ⟨b,o,m,i,λp h g=>⟨(d p h g).1.below (a.mono f) i,(d p h g).2.below (a.mono f)⟩⟩
   ·rcases G with d|⟨b,o,m,i,d⟩
    ·exact aj d
    ·exact ak ⟨b,o,m,i,λp h g=>⟨(d p h g).1.below (a.mono f) i,(d p h g).2.below (a.mono f)⟩⟩
  ·intro q a;exact Cp ⟨n+1,e⟩ ⟨j+1,t⟩ l q (d.below (a.mono f)) (v.below (a.mono f)) (aF f a.size) w x
def oC(n:Nat)(q:List (Tm n)):List An:=q.map λx=>⟨n,x⟩
theorem nN(n:Nat)(q:List (Tm n)):(oC n q).length=q.length:=by simp[oC]
theorem D7{n:Nat}{q:List (Tm n)}{w:ag}{f po:Nat}(r:∀(i:Nat)(y:Tm n),q[i]?=some y->dH w f (po+i*4) n y):∀j b,(gz (oC n q))[j]?=some b->w.cell? ((⟨f,po,none⟩:Addr).add j)=some b:=by
 intro j b a;have d:=lH (oC n q);have s:j<q.length*4:=by
  rw[nN]at d;rw[<-d];exact(aZ.1 a).1
 obtain⟨k,i,p,rfl⟩:∃k i,i<4/\j=k*4+i:=⟨j / 4,j % 4,Nat.mod_lt _ (by decide),by omega⟩;obtain⟨y,e⟩:∃y,q[k]?=some y:=⟨q[k]'(by omega),aN _⟩;have g:(gz (oC n q))[k*4+i]?=(uk (tO ⟨n,y⟩))[i]? :=jr _ k (tO ⟨n,y⟩) (by simp[oC,e]) i p;rw[g]at a;have c:=r k y e;cases n with
 | zero=>exact c.elim
 | succ n=>
 obtain⟨h,l,m,o⟩:=c;rw[eU,<-Nat.add_assoc];have:i=0\/i=1\/i=2\/i=3:=by omega
 rcases this with rfl|rfl|rfl|rfl
 all_goals simp[uk,tO,gK,bO]at a;subst a
 ·exact h
 ·exact l
 ·exact m
 ·exact o
theorem DM(n:Nat)(q:List (Tm n))(len l po pc:Nat)(w:ag)(p:Hid (q.length=len))(F:0<len)(G:len<=1048576)(y:Hid (∀w1,am w w1->∀j u,(gz (oC n q))[j]?=some u->w1.cell? ((⟨l,po,none⟩:Addr).add j)=some u)):ao 184 #[ae (some ⟨l,po,none⟩) len pc] w λe w'=>∃g c,e=.returned (ae (some ⟨g,0,none⟩) len c)/\Hid (am w w'/\nL w.heap.size g c (oC n q) w'):=by
 obtain⟨C,o,r,s,t⟩:=bY gO;have a:=ap (⟨o,r,s,t⟩:_/\_/\_/\_);clear o r s t;have I:∀(w:ag)(b:ar)(n c i f:Nat),(binOp .eql 29 (ae b n c) (ae none i f)).run Tryz.prog w=.ok (.bool b.isNone) w:=λw b n c i f=>Lib.run_eql_slice_nil w _ _ b n c i f underlying29;go_enter func184,ntmps184;go_wp2_with (at_builtin;refine wpList_append_own _ rfl _ _ 29 rfl w.heap.size 31 C _ 4 56 underlying29 a.1 a.2.1 a.2.2.1 a.2.2.2 rfl (by decide) _ _ _ rfl (World.ownsRow_made w #[] 0 (av _) (aM _) (by simp)) ⟨l,po,none⟩ len pc (gz (oC n q)) rfl ?qc1 ?qc2 ?qc3 ?qc4 ?qc5 ?qc6 ?_)
 case qc1=>rw[lH,nN,p.out]
 case qc2=>exact y _ (aS _ _)
 case qc3=>exact A5 _
 case qc4=>unfold maxLen;omega
 case qc5=>omega
 case qc6=>simp
 intro D w1 h m B;have v:Hid (∃g c,D=ae (some ⟨g,0,none⟩) len c/\am w w1/\nL w.heap.size g c (oC n q) w1):=by
  have z:am w w1:=Below.grown (aS _ _) m (by simp) (by intro k A;simp[Value.ownBlock]at A;omega);have d:=h;obtain⟨_,d⟩:=d;rcases d with⟨_,d⟩|⟨g,cap,E,rfl,H,_⟩
  ·omega
  ·refine⟨g,cap,rfl,z,?_⟩;unfold nL;rw[nN,p.out];exact h
 clear h m B;obtain⟨g,c,rfl,x⟩:=v;go_wp2_with fail
 go_ret
 exact⟨g,c,rfl,x⟩
def ui(a b:Int)(cl bd:Bool):Int:=if a=0 then if b=0 then if cl && bd then 0 else 5 else b else a
def zn(a:Int)(o:Option (List An))(w:ag)(e:Ending)(w':ag):Prop:=
 ∃f len c d,e=.returned (.tuple #[ae f len c,.bool d,ab a])/\Hid (am w w'/\
  ((¬(a=0/\o.isSome=true)->len=0/\d=false)/\∀b,a=0->o=some b->d=true/\len=4/\b.length=4/\∃g l,w.heap.size<=g.heap.size/\il (nJ b) (De b) g w' f c l))
def OG(w:ag)(v0 v1 v2 v3 a b c d:au)(w':ag):Prop:=
 am w w'/\w.heap.size+2<=w'.heap.size/\
 (w'.cell? ⟨w.heap.size,0,none⟩=some v0/\w'.cell? ⟨w.heap.size,1,none⟩=some v1/\w'.cell? ⟨w.heap.size,2,none⟩=some v2/\w'.cell? ⟨w.heap.size,3,none⟩=some v3)/\
 (w'.cell? ⟨w.heap.size+1,0,none⟩=some a/\w'.cell? ⟨w.heap.size+1,1,none⟩=some b/\w'.cell? ⟨w.heap.size+1,2,none⟩=some c/\w'.cell? ⟨w.heap.size+1,3,none⟩=some d)
theorem OG.new(w:ag)(v0 v1 v2 v3 a b c d:au)(t e:TypeId):OG w v0 v1 v2 v3 a b c d ((w.alloc (.cells #[v0,v1,v2,v3] t)).alloc (.cells #[a,b,c,d] e)):=
 ⟨(aS _ _).alloc (by simp) _,by simp,⟨by simp[go_sem],by simp[go_sem],by simp[go_sem],by simp[go_sem]⟩,by simp[go_sem],by simp[go_sem],by simp[go_sem],by simp[go_sem]⟩
theorem OG.next{w:ag}{v0 v1 v2 v3 c d e f:au}{w1 w2:ag}(a:OG w v0 v1 v2 v3 c d e f w1)(b:am w1 w2):OG w v0 v1 v2 v3 c d e f w2:=
 ⟨a.1.trans (b.mono a.1.size),aF a.2.1 b.size,oF (by have:=a.2.1;omega) b a.2.2.1,oF (by have:=a.2.1;omega) b a.2.2.2⟩
theorem En(w:ag)(k G z D:Int)(s C:aq)(a n:ar)(l pc A B:Nat)(W:ar)(Y X:Nat)(i j:Int)(cl bd:Bool)(o:Option (List An))(T:List An)(av:Hid (∀w1,am w w1->ao 53 #[.agg #[ab k,ab G,af s,ae a l pc]] w1 λe w'=>e=.returned (ab i)/\am w1 w'))(aw:Hid (∀w1,am w w1->ao 53 #[.agg #[ab z,ab D,af C,ae n A B]] w1 λe w'=>e=.returned (ab j)/\am w1 w'))(al:Hid (∀w1,am w w1->ao 54 #[.agg #[ab z,ab D,af C,ae n A B]] w1 λe w'=>e=.returned (.bool cl)/\am w1 w'))(ai:Hid (∀w1,am w w1->ao 183 #[ae W Y X] w1 λe w'=>e=.returned (.bool bd)/\am w1 w'))(an:Hid (bd=true->∀w1,am w w1->ao 184 #[ae W Y X] w1 λe w'=>∃g c,e=.returned (ae (some ⟨g,0,none⟩) 4 c)/\Hid (am w1 w'/\nL w1.heap.size g c T w')))(S:Hid (ui i j cl bd=0->∀w1 base g c,am w w1->w.heap.size<=base->nL base g c T w1->ao 185 #[ae (some ⟨g,0,none⟩) 4 c,.agg #[ab k,ab G,af s,ae a l pc],.agg #[ab z,ab D,af C,ae n A B]] w1 (fj base g c o w1)))(R:Hid (ui i j cl bd=0->∀w1 base g c b,o=some b->am w w1->nL base g c b w1->b.length=4/\ao 89 #[ae (some ⟨g,0,none⟩) 4 c] w1 λe w'=>∃n aC l,e=.returned (ae n 4 aC)/\Hid (il (nJ b) (De b) w1 w' n aC l))):ao 152 #[.agg #[ab k,ab G,af s,ae a l pc],.agg #[ab z,ab D,af C,ae n A B],ae W Y X] w (zn (ui i j cl bd) o w):=by
 obtain⟨f,V⟩:∃f,f=ui i j cl bd:=⟨_,rfl⟩;rw[<-V]at S R ⊢;have q:=ap V;clear V;go_enter func152,ntmps152;go_wp2_with fail;refine(av _ (OG.new w _ _ _ _ _ _ _ _ _ _).1).mono ?_;rintro e w1 ⟨rfl,aE⟩;have t:=ap ((OG.new w (ab k) (ab G) (af s) (ae a l pc) (ab z) (ab D) (af C) (ae n A B) 31 31).next aE);clear aE av;by_cases m:i=0
 case neg=>
  have aM:(i !=0)=true:=by simpa using m
  have d:Hid (f=i/\¬f=0):=by have:=q.out;unfold ui at this;rw[if_neg m]at this;exact⟨this,by rw[this];exact m⟩
  clear m q;go_wp2_with fail;exact ay (v:=.tuple #[ae none 0 0,.bool false,ab i]) (by simp[results,results152,go_sem]) rfl ⟨none,0,0,false,by rw[d.out.1],t.1,λ_=>⟨rfl,rfl⟩,λb h=>absurd h d.2⟩
 have aM:(i !=0)=false:=by simp[m]
 obtain⟨⟨L,M,N,O⟩,H,I,J,K⟩:=t.out.2.2;go_wp2_with fail;refine(aw _ t.1).mono ?_;rintro e aR ⟨rfl,aG⟩;have u:=ap (t.next aG);clear aG aw t L M N O H I J K;by_cases p:j=0
 case neg=>
  have aN:(j !=0)=true:=by simpa using p
  have d:Hid (f=j/\¬f=0):=by have:=q.out;unfold ui at this;rw[if_pos m,if_neg p]at this;exact⟨this,by rw[this];exact p⟩
  clear p m q;go_wp2_with fail;exact ay (v:=.tuple #[ae none 0 0,.bool false,ab j]) (by simp[results,results152,go_sem]) rfl ⟨none,0,0,false,by rw[d.out.1],u.1,λ_=>⟨rfl,rfl⟩,λb h=>absurd h d.2⟩
 have aN:(j !=0)=false:=by simp[p]
 have r:Hid (f=if cl && bd then 0 else 5):=by have:=q.out;unfold ui at this;rw[if_pos m,if_pos p]at this;exact this
 clear p m q;obtain⟨⟨L,M,N,O⟩,H,I,J,K⟩:=u.out.2.2;go_wp2_with fail;refine(al _ u.1).mono ?_;rintro e aS ⟨rfl,aH⟩;have E:=ap (u.next aH);clear aH al u L M N O H I J K;cases cl with
 | false=>
  have d:Hid (f=5/\¬f=0):=by have:=r.out;simp at this;exact⟨this,by rw[this];decide⟩
  clear r;go_wp2_with fail;exact ay (v:=.tuple #[ae none 0 0,.bool false,ab 5]) (by simp[results,results152,go_sem]) rfl ⟨none,0,0,false,by rw[d.out.1],E.1,λ_=>⟨rfl,rfl⟩,λb h=>absurd h d.2⟩
 | true=>
 go_wp2_with fail;refine(ai _ E.1).mono ?_;rintro e Z ⟨rfl,aI⟩;have x:=ap (E.next aI);clear aI ai E;cases bd with
 | false=>
  have d:Hid (f=5/\¬f=0):=by have:=r.out;simp at this;exact⟨this,by rw[this];decide⟩
  clear r;go_wp2_with fail;exact ay (v:=.tuple #[ae none 0 0,.bool false,ab 5]) (by simp[results,results152,go_sem]) rfl ⟨none,0,0,false,by rw[d.out.1],x.1,λ_=>⟨rfl,rfl⟩,λb h=>absurd h d.2⟩
 | true=>
 have d:Hid (f=0):=by have:=r.out;simp at this;exact this
 have ax:=ap (S d);have aj:=ap (R d);have au:=ap (an rfl);clear r S R an;go_wp2_with fail;refine(au _ x.1).mono ?_;rintro e aJ ⟨g,c,rfl,Q⟩;have P:=ap (x.next Q.1);have F:Hid (nL Z.heap.size g c T aJ):=Q.2;have aA:Hid (w.heap.size<=Z.heap.size):=x.1.size;obtain⟨⟨L,M,N,O⟩,H,I,J,K⟩:=P.out.2.2;clear x Q au;go_wp2_with fail;refine(ax aJ Z.heap.size g c P.1 aA F).mono ?_;rintro e aa U;have y:Hid (am w aa):=P.1.trans (oJ U.2.1 (aF aA F.lt.1) F.lt.2);have ad:=ap U.2.2;obtain⟨rfl,_,_⟩:=U;clear F ax;cases o with
 | none=>
  simp only[nE];go_wp2_with fail;exact ay (v:=.tuple #[ae none 0 0,.bool false,ab 0]) (by simp[results,results152,go_sem]) rfl ⟨none,0,0,false,by rw[d.out],y,λ_=>⟨rfl,rfl⟩,λb _ h=>by cases h⟩
 | some b=>
  simp only[nF];have aL:=ap (ad b rfl);have ak:=ap (aj aa _ g c b rfl y aL);clear ad aj;go_wp2_with fail;refine ak.2.mono ?_;rintro e aP ⟨aB,aD,aO,rfl,ah⟩;have aK:Hid (am w aP):=y.trans (ah.1.mono y.size);go_wp2_with fail;exact ay (v:=.tuple #[ae aB 4 aD,.bool true,ab 0]) (by simp[results,results152,go_sem]) rfl ⟨aB,4,aD,true,by rw[d.out],aK,λh=>absurd ⟨d,rfl⟩ h,λaQ _ e=>by obtain rfl:=az e;exact⟨rfl,rfl,ak.1,aa,aO,y.size,ah⟩⟩
theorem xW{e f:Int}{cl bd:Bool}(a:ui e f cl bd=0):e=0/\f=0/\cl=true/\bd=true:=by
 unfold ui at a;split at a
 ·split at a
  ·split at a
   ·rename_i b c d;simp at d;exact⟨b,c,d.1,d.2⟩
   ·cases a
  ·rename_i b c;exact absurd a c
 ·rename_i b;exact absurd a b
theorem Be{n:Nat}{q:List (Tm n)}(a:gJ n q=true):q.length=4:=by
 unfold gJ at a;simp at a;exact a.1
theorem GP{n:Nat}{q:List (Tm n)}(a:gJ n q=true):∀y∈oC n q,aJ y:=by
 intro y c;simp only[oC,cu]at c;obtain⟨x,d,rfl⟩:=c;unfold gJ at a;simp only[aK,cJ]at a;have b:=a.2 x d;unfold Ck at b;simp only[aK,cv]at b;exact rI n x b.1
theorem Nt{B:Nat}{w:ag}{n:Nat}{q:List (Tm n)}{a:ar}(c:fZ B w n q a):∀y∈oC n q,Gx B w y:=by
 intro y e;simp only[oC,cu]at e;obtain⟨x,d,rfl⟩:=e;rcases c with c|⟨b,o,_,_,c⟩
 ·rw[c]at d;cases d
 ·obtain⟨g,f⟩:=dp d;exact(c g x f).2
theorem BZ{B:Nat}{w:ag}{n:Nat}{q:List (Tm n)}{a:ar}(d:fZ B w n q a)(k:gJ n q=true):Dt B w (oC n q):=
 ⟨by rw[nN];exact Be k,λc b=>⟨Nt d c b,GP k c b⟩⟩
theorem yj(n m o:Nat)(p:Tm n)(t:Tm m)(q:List (Tm o))(a:ar)(c B:Nat)(w:ag)(C:In B w n p)(j:In B w m t)(g:fZ B w o q a)(e:B<=w.heap.size)(J:(aC n p).length<=2097152)(L:(aC m t).length<=2097152)(K:∀y∈q,(aC o y).length<=2097152)(S:q.length<=9223372036854775807):ao 152 #[dG n p,dG m t,ae a q.length c] w (zn (ui (bJ n p) (bJ m t) (kE m t) (gJ o q)) (iG n p m t (oC o q)) w):=by
 cases n with
 | zero=>exact C.elim
 | succ n=>
 cases m with
 | zero=>exact j.elim
 | succ m=>
 refine En w p.1.1 p.1.2.1 t.1.1 t.1.2.1 p.1.2.2 t.1.2.2 p.2.1.1 t.2.1.1 p.2.2.length p.2.1.2 t.2.2.length t.2.1.2 a q.length c _ _ _ _ _ (oC o q) ?_ ?_ ?_ ?_ ?_ ?_ ?_
 ·exact λf d=>eq (n+1) p B f (C.below (d.mono e)) (aF e d.size) J
 ·exact λf d=>eq (m+1) t B f (j.below (d.mono e)) (aF e d.size) L
 ·intro f d;rw[<-fR];exact jk (m+1) t B f (j.below (d.mono e)) (aF e d.size)
 ·exact λf d=>A9 o q a c B f (g.below (d.mono e)) S K (aF e d.size)
 ·intro N f d;have k:=Be N;rcases g with g|⟨U,po,rfl,G,g⟩
  ·rw[g]at k;simp at k
  ·have l:=DM o q 4 U po c f k (by decide) (by decide) (λW I=>D7 λT y h=>((g T y h).1.below (d.mono e) G).below (I.mono (aF e d.size)) G);rw[k];exact l
 ·intro z f D v r d M A;obtain⟨E,s,H,u⟩:=xW z;exact Kv (n+1) p (m+1) t (oC o q) D v r B f (C.below (d.mono e)) (j.below (d.mono e)) (rI _ _ E) (rI _ _ s) ((BZ g u).below (d.mono e)) (aF e M) A
 ·intro z f D v r b O d A;obtain⟨E,s,H,u⟩:=xW z;have i:=((BZ g u).fit j (rI _ _ s) O).below (d.mono e);have Q:=Mb A (λy h=>(i.2 y h).1) (aF e d.size);have R:(De b).length=4:=by simp[De,i.1]
  have l:=tF (nJ b) (iL _) (De b) (some ⟨v,0,none⟩) r f.heap.size f Q (by omega) (Js λy h=>⟨(i.2 y h).2,λF=>by
   have P:=(i.2 y h).1;obtain⟨V,x⟩:=y;simp only at F;subst F
   exact P.elim⟩) (av _)
  rw[R]at l;exact⟨i.1,l⟩
theorem zG{n:Nat}{x:Tm (n+1)}(a:aT (n+1) x=true):x.1.1≠5/\x.1.1≠6/\∀y∈x.2.2,aT n y=true:=by
 simp only[aT,aK,ld,cJ]at a;exact⟨by simpa using a.1.1,by simpa using a.1.2,a.2⟩
def QT:(n:Nat)->Tm n->Bool
 | 0,_=>true
 | n+1,x=> !(x.1.1==5) && x.2.2.all λy=>QT n y
def DB(D:Nat)(l:List (Tm D))(d:List An):Prop:=∀(i:Nat)(a:An),d[i]?=some a->∃y,l[i]?=some y/\aB D y a.1 a.2=true/\aJ ⟨D,y⟩
theorem xY{n m:Nat}:(p:List (Tm n))->(q:List (Tm m))->(b c:List An)->jg (λx y b=>iG n x m y b) p q b=some c->∀(i:Nat)(x:Tm n)(y:Tm m),p[i]?=some x->q[i]?=some y->∃a e,iG n x m y a=some e
 | [],_,_,_,_,i,x,y,hx,_=>by simp at hx
 | _::_,[],_,_,_,i,x,y,_,hy=>by simp at hy
 | x::p,y::q,b,c,h,i,x',y',hx,hy=>by
  simp only[jg]at h;obtain⟨d,f,g⟩:=bI.1 h;cases i with
  | zero=>
   simp at hx hy;subst hx hy;exact⟨b,d,f⟩
  | succ i=>exact xY p q d c g i x' y' (by simpa using hx) (by simpa using hy)
theorem LU{a β:Type}(f:a->Int)(g:β->Int):(p:List a)->(q:List β)->p.length=q.length->(∀(i:Nat)(x:a)(y:β),p[i]?=some x->q[i]?=some y->f x<=g y)->(p.map f).sum<=(q.map g).sum
 | [],[],_,_=>by simp
 | [],_::_,h,_=>by simp at h
 | _::_,[],h,_=>by simp at h
 | x::p,y::q,h,hf=>by
  have e:=hf 0 x y (by simp) (by simp);have j:=LU f g p q (by simpa using h) λi x' d b c=>hf (i+1) x' d (by simpa using b) (by simpa using c);simp only[aV,bR];omega
theorem FS{a β:Type}(f:a->Int)(g:β->Int):(p:List a)->(q:List β)->(i j:Int)->i<=j->p.length=q.length->(∀(i:Nat)(x:a)(y:β),p[i]?=some x->q[i]?=some y->f x<=g y)->p.foldl (λm y=>max m (f y)) i<=q.foldl (λm y=>max m (g y)) j
 | [],[],_,_,h,_,_=>h
 | [],_::_,_,_,_,h,_=>by simp at h
 | _::_,[],_,_,_,h,_=>by simp at h
 | x::p,y::q,i,j,hij,h,hf=>by
  have e:=hf 0 x y (by simp) (by simp);simp only[gU];exact FS f g p q _ _ (by omega) (by simpa using h) λi x' d b c=>hf (i+1) x' d (by simpa using b) (by simpa using c)
theorem uJ{c:Type}(f:c->Int)(b:∀x,0<=f x):(p:List c)->(y:c)->y∈p->f y<=(p.map f).sum/\0<=(p.map f).sum
 | [],y,a=>by cases a
 | x::p,y,a=>by
  have g:=b x;have e:0<=(p.map f).sum:=by
   cases p with
   | nil=>simp
   | cons d p=>exact(uJ f b (d::p) d (by simp)).2
  simp only[aV,bR];rcases cY.1 a with rfl|a
  ·omega
  ·have:=uJ f b p y a;omega
theorem FR{a:Type}(f:a->Int):(p:List a)->(i:Int)->i<=p.foldl (λm y=>max m (f y)) i
 | [],_=>jD _
 | x::p,i=>by
  simp only[gU];have:=FR f p (max i (f x));omega
theorem B8{b:Type}(f:b->Int):(p:List b)->(i:Int)->(y:b)->y∈p->f y<=p.foldl (λm y=>max m (f y)) i
 | [],_,y,a=>by cases a
 | x::p,i,y,a=>by
  simp only[gU];rcases cY.1 a with rfl|a
  ·have:=FR f p (max i (f y));omega
  ·exact B8 f p _ y a
theorem Pa:(n:Nat)->(x:Tm n)->(m:Nat)->(t:Tm m)->(b c:List An)->QT n x=true->iG n x m t b=some c->sz n x<=sz m t/\fU n x<=fU m t
 | 0,_,_,_,_,_,_,h=>by simp[iG]at h
 | _+1,_,0,_,_,_,_,h=>by simp[iG]at h
 | n+1,x,m+1,t,b,c,hv,h=>by
  have s0:=(ft (m+1) t).1;have d0:=(gB (m+1) t).1;simp only[QT,aK,cJ]at hv;have q:¬x.1.1=5:=by simpa using hv.1
  by_cases i:x.1.1=4
  ·have r:¬x.1.1=6:=by omega
   simp only[iG,if_neg r,if_neg q,if_pos i]at h;split at h
   ·rename_i j;have o:=xY _ _ b c h;have key:∀(e:Nat)(a:Tm n)(d:Tm m),x.2.2[e]?=some a->t.2.2[e]?=some d->sz n a<=sz m d/\fU n a<=fU m d:=λe a d f g=>by
     obtain⟨k,l,p⟩:=o e a d f g;exact Pa n a m d k l (hv.2 a (aL f)) p
    have s:=LU (λa=>1+sz n a) (λa=>1+sz m a) x.2.2 t.2.2 j.2 λe a d f g=>by have:=key e a d f g;omega
    have u:=FS (λa=>fU n a) (λa=>fU m a) x.2.2 t.2.2 0 0 (jD _) j.2 λe a d f g=>(key e a d f g).2;simp only[sz,fU,if_pos i,if_pos j.1];omega
   ·cases h
  ·simp only[sz,fU,if_neg i];simp only[sz,fU]at s0 d0;exact⟨s0,d0⟩
theorem vn{n:Nat}{x:Tm n}:bJ n x=0 ↔ cr n x=true/\fU n x<=12/\sz n x<=200:=by
 rw[<-gR];unfold xH;constructor
 ·intro a;split at a
  ·rename_i c;split at a
   ·cases a
   ·rename_i f;exact⟨c,by omega,by omega⟩
  ·cases a
 ·rintro ⟨b,d,e⟩;rw[if_pos b,if_neg (by omega)]
def DA(a:An):Prop:=bJ a.1 a.2=0/\(cg a=6\/aT a.1 a.2=true)
theorem oQ:uV DA:=by
 intro n x a g b;obtain⟨h,c⟩:=g;obtain⟨f1,f2,f3⟩:=vn.1 h;have e:aJ ⟨n+1,x⟩:=aU.2 f1;have f:=e9 (bO n x) (e (bO n x) (by simp[aC,bO]));have d:x.1.1=4:=by
  by_cases d:x.1.1=4
  ·exact d
  ·have:x.2.2=[]:=bL (f.2.2.2.2 d);rw[this]at b;cases b
 have j:=uJ (λa=>1+sz n a) (λa=>by have:=(ft n a).1;omega) x.2.2 a b;have i:=B8 (λa=>fU n a) x.2.2 0 a b;simp only[sz,fU,if_pos d]at f2 f3;refine⟨vn.2 ⟨aU.1 (bj n x a e b),by simp only at i ⊢;omega,by simp only at j ⊢;omega⟩,ak ?_⟩;rcases c with c|c
 ·simp only[cg]at c;omega
 ·exact(zG c).2.2 a b
theorem yU{D:Nat}{l:List (Tm D)}{c:List An}(g:∀y∈c,DA y)(h:l.length=4)(n:c.length=4)(j:DB D l c):gJ D l=true:=by
 unfold gJ;rw[h];simp only[decide_true,eV,cJ];intro y k;obtain⟨a,e⟩:=dp k;have i:a<c.length:=by have:=(aZ.1 e).1;omega
 obtain⟨o,f,d,_⟩:=j a c[a] (aN i);rw[e]at f;obtain rfl:=az f;obtain⟨m,b⟩:=g c[a] (iv _);unfold Ck;rw[cd d,m,kV d,<-fR,cR _ _ _ _ d];rcases b with b|b
 ·have:cg (⟨(c[a]).1,(c[a]).2⟩:An)=6:=b;rw[this];rfl
 ·rw[b];simp
theorem FQ{b:List An}{w1 w':ag}{a:ar}{c:Nat}{l:List (Tm (nJ b))}(q:il (nJ b) (De b) w1 w' a c l)(j:∀y∈b,aJ y)(r:b.length=4):fZ w'.heap.size w' (nJ b) l a/\l.length=4/\DB (nJ b) l b/\∀y∈l,aJ ⟨nJ b,y⟩:=by
 obtain⟨E,F,G,H,A,f⟩:=q;have D:(De b).length=4:=by simp[De,r]
 have t:fZ w'.heap.size w' (nJ b) l a:=by
  rcases f with f|⟨B,o,p,C,v,f⟩
  ·exact aj f
  ·exact ak ⟨B,o,p,v,λd y i=>⟨(f d y i).1,(f d y i).2.1⟩⟩
 have m:DB (nJ b) l b:=by
  intro d e h;have g:d<l.length:=by have:=(aZ.1 h).1;omega
  have z:(De b)[d]?=some (bf (nJ b) e.1 e.2):=by simp[De,h]
  have x:=jV _ _ _ A d l[d] _ (aN g) z;have u:=fS (nJ b) e.1 (AM b e (aL h)) e.2 (j e (aL h));have k:=bS _ _ _ _ _ _ x u;exact⟨l[d],aN g,k,aU.2 (by rw[jW _ _ _ _ k];exact aU.1 (j e (aL h)))⟩
 refine⟨t,by omega,m,λy i=>?_⟩;obtain⟨d,g⟩:=dp i;have s:d<b.length:=by have:=(aZ.1 g).1;omega
 obtain⟨I,n,_,w⟩:=m d b[d] (aN s);rw[g]at n;obtain rfl:=az n;exact w
def fH:Tm 1:=((6,0,.empty),(none,0),[])
theorem OY(B:Nat)(w:ag):In B w 1 fH:=⟨⟨by simp[fH,dN],by simp[fH,dN],aM _,by simp[fH],by simp[fH]⟩,aj rfl⟩
theorem P9:cr 1 fH=true:=by
 have:(ByteArray.empty).toList=[]:=by rw[cI];rfl
 simp[cr,fH,cQ,bO,this]
theorem d1(x:Tm 1)(a:x.1.1≠4):fU 1 x=0/\sz 1 x=0:=by simp[fU,sz,a]
theorem zC:bJ 1 fH=0:=by
 rw[vn];have a:=d1 fH (by simp[fH]);exact⟨P9,by rw[a.1];decide,by rw[a.2];decide⟩
theorem JX:gJ 1 (List.replicate 4 fH)=true:=by
 have:Ck 1 fH=true:=by
  unfold Ck;rw[zC];rfl
 unfold gJ;simp only[List.length_replicate,decide_true,eV,cJ];intro b a;rw[List.eq_of_mem_replicate a];exact this
theorem Ce(w:ag):ao 153 #[] w λe w'=>e=.returned (ae (some ⟨w.heap.size,0,none⟩) 4 4)/\Hid (il 1 (List.replicate 4 fH) w w' (some ⟨w.heap.size,0,none⟩) 4 (List.replicate 4 fH)):=by
 obtain⟨B,l,q,r,s⟩:=bY gO;go_enter func153,ntmps153;go_wp2_with (at_make;refine lD _ rfl _ _ 29 rfl w.heap.size 31 B _ 4 underlying29 l q r _ _ _ _ 4 rfl rfl rfl rfl (by rw[s];omega) (by unfold maxLen;omega) (av _) ?_;intro D p b);have i:=ap (rK 1 (List.replicate 4 fH) 4 p);have h:Hid (am w D):=⟨b.os,b.tape,b.output,b.size,λk m=>b.block k m (by simp)⟩;clear p b l q r s;go_loopw [6] (λd wr=>∃k:Nat,k<=4/\d=ab k/\Hid (am w wr/\uS 1 (List.replicate 4 fH) 4 w.heap.size k (List.replicate k fH) wr)) (λd _=>4-(intOf d).toNat)
 case atStart=>exact⟨0,by omega,rfl,h,i⟩
 case round=>
  obtain⟨k,m,rfl,a⟩:=hrel;clear i h;by_cases n:k<4
  ·have t:(List.replicate 4 fH)[k]?=some fH:=by rw[List.getElem?_replicate,if_pos n]
   have j:In wr.heap.size wr 1 fH:=OY _ _;have o:cD (λf=>w.heap.size<f) 1 fH:=by simp[cD,fH]
   have z:=ap (a.2.step n fH t (aA _ _) fH j o (by simp[aB,fH,aG]));have v:Hid (am w (jT wr w.heap.size (k*4) (gK 1 fH))):=by
    have c:=a.1;exact⟨c.os,c.tape,c.output,aF c.size (dT (bG _ _ _ _).symm),λf A=>(bm (by omega) _ _ _ _).trans (c.block f A)⟩
   obtain⟨g,u⟩:∃g,((List.replicate k fH).map (λx=>(⟨1,x⟩:An))++List.replicate (4-k) zA)[k]?=some g:=⟨_,aN (by simp;omega)⟩;obtain⟨E,F,G,H⟩:=a.out.2.2.1.cells k g u;have I:=λC=>a.2.2.1.free C;have J:(0:Int)<=(k:Int):=by omega
   have K:(k:Int)<4:=by omega
   have L:(k:Int)<=4:=by omega
   clear t j o u a;go_wp2_with fail;go_roundw
   case rel=>
    refine⟨k+1,by omega,by go_num,v,?_⟩;have e:List.replicate (k+1) fH=List.replicate k fH++ [fH]:=List.replicate_succ';rw[e];exact z
   case measure=>simp[intOf];omega
  ·obtain rfl:k=4:=by omega
   have y:=ap (a.2.done rfl (by omega) a.1 (by unfold maxLen;omega));go_wp2_with fail
   go_ret
   exact⟨rfl,y⟩
structure bE (S:Nat->Prop) (w w':World):Prop where
 os:w'.os=w.os
 tape:w'.tape=w.tape
 output:w'.output=w.output
 size:w.heap.size<=w'.heap.size
 block:∀b,b<w.heap.size->¬S b->w'.heap[b]?=w.heap[b]?
theorem bE.refl(S:Nat->Prop)(w:World):bE S w w:=⟨rfl,rfl,rfl,av _,λ_ _ _=>rfl⟩
theorem bE.trans{S T:Nat->Prop}{w w1 w2:World}(a:bE S w w1)(k:bE T w1 w2)(e:∀b,b<w.heap.size->T b->S b):bE S w w2:=
 ⟨k.os.trans a.os,k.tape.trans a.tape,k.output.trans a.output,aF a.size k.size,λb c d=>(k.block b (aW c a.size) (λf=>d (e b c f))).trans (a.block b c d)⟩
theorem bE.mono{S T:Nat->Prop}{w w1:World}(a:bE S w w1)(d:∀b,b<w.heap.size->S b->T b):bE T w w1:=⟨a.os,a.tape,a.output,a.size,λb c e=>a.block b c λk=>e (d b c k)⟩
theorem aR{w w':World}(a:Below w.heap.size w w')(S:Nat->Prop):bE S w w':=⟨a.os,a.tape,a.output,a.size,λb c _=>a.block b c⟩
theorem eM{w w':World}{row:Option Nat}(a:w.grownBy w' row):bE (λb=>row=some b) w w':=⟨a.os,a.tape,a.output,a.size,λb c d=>a.block b c λe=>d e.symm⟩
theorem bN(w:World)(q o:Nat)(v:Value):bE (λb=>b=q) w (w.setCell ⟨q,o,none⟩ v):=
 ⟨rfl,rfl,rfl,by simp[World.setCell],λb _ c=>by
  have:q≠b:=λa=>c a.symm
  simp[World.setCell,bT,this]⟩
theorem bE.below{S:Nat->Prop}{w w':World}{B:Nat}(a:bE S w w')(e:B<=w.heap.size)(c:∀b,b<B->¬S b):Below B w w':=⟨a.os,a.tape,a.output,a.size,λb d=>a.block b (by omega) (c b d)⟩
theorem bE.cell{S:Nat->Prop}{w w':World}(a:bE S w w'){b:Nat}(o:Nat)(d:b<w.heap.size)(c:¬S b):w'.cell? ⟨b,o,none⟩=w.cell? ⟨b,o,none⟩:=by
 simp only[World.cell?,a.block b d c]
theorem bB{base:Nat}{e:TypeId}{sz:Nat}{v:Value}{n:Nat}{xs:List Value}{w w':World}{S:Nat->Prop}(c:w.ownsRow base e sz v n xs)(k:bE S w w')(h:∀b,v.ownBlock=some b->¬S b):w'.ownsRow base e sz v n xs:=by
 refine⟨c.1,?_⟩;rcases c.2 with⟨e,g⟩|⟨a,cap,f,e,i,d,j⟩
 ·exact aj ⟨e,g⟩
 ·exact ak ⟨a,cap,f,e,i,(k.block a (aI.1 d).1 (h a (by rw[e];rfl))).trans d,j⟩
theorem dH.kee{S:Nat->Prop}{w w':World}(a:bE S w w'){b o:Nat}(d:b<w.heap.size)(c:¬S b):{n:Nat}->{x:Tm n}->dH w b o n x->dH w' b o n x
 | 0,_,k=>k
 | _+1,_,k=>by
  obtain⟨e,f,g,h⟩:=k;exact⟨(a.cell _ d c).trans e,(a.cell _ d c).trans f,(a.cell _ d c).trans g,(a.cell _ d c).trans h⟩
theorem In.kee{S:Nat->Prop}{w w':World}(d:bE S w w'):{n:Nat}->{x:Tm n}->In w.heap.size w n x->cD (λb=>¬S b) n x->In w'.heap.size w' n x
 | 0,_,k,_=>k
 | _+1,x,k,o=>by
  obtain⟨p,a⟩:=k;refine⟨p,?_⟩;rcases a with a|⟨b,f,e,h,a⟩
  ·exact aj a
  ·rcases o with o|⟨q,r,c,m,o⟩
   ·exact aj o
   ·rw[e]at c;injection c with c;injection c with j l;subst j l;exact ak ⟨b,f,e,aW h d.size,λi y g=>⟨(a i y g).1.kee d h m,(a i y g).2.kee d (o i y g)⟩⟩
/-! ### the keys -/
theorem mr:WideMaps.ArrKey Tryz.prog 44 3 2:=⟨underlying44,by kernel_rfl,by kernel_rfl,by kernel_rfl⟩
theorem dI:Keyed Tryz.prog 44:=Keyed.of_law mr.law
theorem wZ:∃m,Tryz.prog.types.size=m+1:=by
 have a:(Tryz.prog.types.size==0)=false:=by kernel_rfl
 have b:Tryz.prog.types.size≠0:=g9.1 a;exact⟨Tryz.prog.types.size-1,by omega⟩
def pk(k:Int×Int):Value:=.agg #[.int .i64 k.1,.int .i64 k.2]
def kl(k:Int×Int):Lit:=.string (keyBytes [.int .i64 k.1,.int .i64 k.2])
def I2(k:Int×Int):Prop:=dN k.1/\dN k.2
theorem Ox{a:Int}(b:dN a):(Lit.int .i64 a).wf=true:=iZ (by unfold dN at b;omega)
theorem Qc{a:Int}(b:(Lit.int .i64 a).wf=true):dN a:=by
 have: -9223372036854775808<=a/\a<=9223372036854775807:=by simpa [Lit.wf,IntKind.min,IntKind.max,IntKind.signed,IntKind.bits]using b
 exact this
theorem dJ{k:Int×Int}(a:I2 k):keyOf Tryz.prog 44 (pk k)=some (kl k):=WideMaps.keyOf_pair mr underlying3 wZ (Ox a.1) (Ox a.2)
theorem mH{k b:Int×Int}(c:I2 k)(d:I2 b)(e:kl k=kl b):k=b:=by
 have a:=dI.inj (dJ c) (e▸dJ d);simp only[pk,Value.agg.injEq,Array.mk.injEq,lh,Value.int.injEq,true_and,and_true]at a;exact fO a.1 a.2
theorem KH{v:Value}{x:Lit}(a:keyOf Tryz.prog 44 v=some x):∃k,I2 k/\v=pk k/\x=kl k:=by
 have r:=a;unfold keyOf at a;simp only[underlying44]at a;split at a
 ·rename_i n;simp only[aK]at n;have f:=n.2;unfold Value.formed at f;cases v<;>simp[underlying44]at f;rename_i q;rw[mr.size]at f;obtain⟨l⟩:=q
  match l,f with
  | [c0,c1],_=>
   simp only[cG]at a;obtain⟨w,d,_⟩:=a;obtain⟨u,s⟩:=wZ;rw[s]at d;unfold Program.keyLits at d;simp only[underlying44,Value.cells]at d;rw[if_pos (by rw[mr.size];rfl),show List.range 2=[0,1]from rfl,List.mapM_cons,List.mapM_cons,List.mapM_nil]at d;simp only[cG,bind,bI,pure,mr.one]at d;obtain⟨_,⟨y0,h,_,⟨y1,i,_⟩,_⟩,_⟩:=d;simp only[Nat.zero_mul,List.drop_zero,List.take_succ_cons,nD,Nat.one_mul,List.drop_succ_cons]at h i;have o:∀c p,Program.keyLits Tryz.prog (u+1) 3 [c]=some p->∃e,c=.int .i64 e/\dN e:=by
    intro c p g;unfold Program.keyLits at g;cases c<;>simp[underlying3]at g;obtain⟨⟨rfl,t⟩,_⟩:=g;exact⟨_,rfl,Qc t⟩
   obtain⟨e,rfl,j⟩:=o _ _ h;obtain⟨b,rfl,m⟩:=o _ _ i;refine⟨(e,b),⟨j,m⟩,rfl,?_⟩;have:=dJ (k:=(e,b)) ⟨j,m⟩;exact az (r.symm.trans this)
 ·cases a
/-! ### the map -/
def l7(v:Value):Option (DataW Value×List MemPlace):=some (.held v,[])
def fK{a:Type}(f:Int×Int->a)(k:Int×Int)(x:a):Int×Int->a:=λj=>if j=k then x else f j
theorem cE{a:Type}(f:Int×Int->a)(k:Int×Int)(x:a):fK f k x k=x:=if_pos rfl
theorem bK{a:Type}(f:Int×Int->a){k j:Int×Int}(x:a)(b:j≠k):fK f k x j=f j:=if_neg b
def lZ:Value:=.slice none 0 0
def dw(N:Nat)(l:List (Tm N)):List Value:=cO (l.map (gK N))
theorem qq(N:Nat)(l:List (Tm N)):(dw N l).length=l.length*4:=by simp[dw,oN]
theorem qp(N:Nat)(l r:List (Tm N)):dw N (l++r)=dw N l++dw N r:=by simp[dw,wg]
def oA(base N:Nat)(v:Value)(l:List (Tm N))(w:World):Prop:=w.ownsRow base 31 4 v l.length (dw N l)
structure GM (base mb n N:Nat) (f:Int×Int->List (Tm N)) (sl:Int×Int->Value) (w:World):Prop where
 lo:base<=mb
 map:∃D,w.ownsMap Tryz.prog 44 l7 mb n D/\(∀k,I2 k->D.atKey (kl k) (.held lZ)=.held (sl k))/\∀x,has D x=true ↔∃k,I2 k/\x=kl k/\f k≠[]
 row:∀k,I2 k->oA base N (sl k) (f k) w
 apart:∀k j,I2 k->I2 j->k≠j->∀b,(sl k).ownBlock=some b->(sl j).ownBlock≠some b
def zW(a:Nat)(sl:Int×Int->Value)(b:Nat):Prop:=b=a\/∃k,I2 k/\(sl k).ownBlock=some b
theorem eN{w:World}{base:Nat}{e:TypeId}{sz:Nat}{v:Value}{n:Nat}{xs:List Value}(d:w.ownsRow base e sz v n xs)(b:Nat)(c:v.ownBlock=some b):∃a,w.heap[b]?=some (.cells a e (0,0)):=by
 rcases d.2 with⟨rfl,_⟩|⟨g,cap,a,rfl,_,f,_⟩
 ·simp[Value.ownBlock]at c
 ·simp[Value.ownBlock]at c;subst c;exact⟨a,f⟩
variable {base mb n N:Nat} {f:Int×Int->List (Tm N)} {sl:Int×Int->Value} {w:World}
theorem GM.lt(a:GM base mb n N f sl w)(b:Nat)(c:zW mb sl b):base<=b/\b<w.heap.size:=by
 rcases c with rfl|⟨k,e,c⟩
 ·obtain⟨g,d,_⟩:=a.map;exact⟨a.lo,d.lt⟩
 ·exact(a.row k e).lt b c
theorem GM.ne(a:GM base mb n N f sl w){k:Int×Int}(g:I2 k):(sl k).ownBlock≠some mb:=by
 intro d;obtain⟨c,b⟩:=eN (a.row k g) mb d;obtain⟨h,⟨es,i,e,_⟩,_⟩:=a.map;rw[e]at b;cases b
theorem GM.kee{S:Nat->Prop}{w':World}(a:GM base mb n N f sl w)(k:bE S w w')(e:∀b,zW mb sl b->¬S b):GM base mb n N f sl w':=by
 refine⟨a.lo,?_,λh g=>bB (a.row h g) k λb c=>e b (ak ⟨h,g,c⟩),a.apart⟩;obtain⟨i,d,l⟩:=a.map;refine⟨i,?_,l⟩;have m:=d.lt;obtain⟨es,j,c,o⟩:=d;exact⟨es,j,(k.block mb m (e mb (aj rfl))).trans c,o⟩
theorem GM.mono(b:GM base mb n N f sl w){m:Nat}(i:n<=m):GM base mb m N f sl w:=by
 obtain⟨c,⟨a,d,e⟩,g,h⟩:=b;exact⟨c,⟨a,d.mono i,e⟩,g,h⟩
theorem GM.new(w:World)(N:Nat):GM w.heap.size w.heap.size 0 N (λ_=> []) (λ_=>lZ) (w.alloc (.map #[] 0)):=
 ⟨av _,⟨.map [],nI w _ _ _,λk _=>by simp[DataW.atKey],λx=>⟨λa=>by simp[has]at a,λ⟨k,_,_,a⟩=>absurd rfl a⟩⟩,
  λk _=>⟨by simp[dw,cO],aj ⟨rfl,rfl⟩⟩,λk d _ _ _ b c=>by simp[lZ,Value.ownBlock]at c⟩
theorem oA.rebase{a:Nat}{v:Value}{l:List (Tm N)}(b:oA base N v l w)(c:a<=base):oA a N v l w:=sk b c
theorem GM.rebase{b:Nat}(a:GM base mb n N f sl w)(c:b<=base):GM b mb n N f sl w:=
 ⟨aF c a.lo,a.map,λk d=>(a.row k d).rebase c,a.apart⟩
theorem Cw{v:Value}{d:DataW Value}{ps:List MemPlace}(a:l7 v=some (d,ps)):d=.held v:=by
 unfold l7 at a;injection a with a;injection a with b c;exact b.symm
theorem sJ(w:World):(zeroValue 29).run Tryz.prog w=.ok (.slice none 0 0) w:=by kernel_rfl
theorem GM.look(d:GM base mb n N f sl w){k:Int×Int}(b:I2 k):(Instr.lookup 51 (.map (some mb)) (pk k) false).run Tryz.prog w=.ok (sl k) w:=by
 obtain⟨i,e,g,_⟩:=d.map;obtain⟨j,ps,h,c⟩:=e.lookup dI underlying51 (sJ w) (zd:=.held lZ) (zp:=[]) rfl (dJ b);rw[g k b]at c;have a:=Cw c;injection a with a;rw[h,a]
theorem Ib(w:World){k:Int×Int}(b:I2 k):(Instr.lookup 51 (.map none) (pk k) false).run Tryz.prog w=.ok (.slice none 0 0) w:=by
 have a:=look_nil (P:=Tryz.prog) (w:=w) false dI underlying51 (sJ w) (dJ b);simpa using a
theorem sO{D:DataW Value}(f:IsMap D){k j:Int×Int}(e:I2 k)(b:I2 j)(v:Value)(c:DataW Value):(D.put (kl k) (.held v)).atKey (kl j) c=if j=k then .held v else D.atKey (kl j) c:=by
 by_cases a:j=k
 ·subst a;rw[if_pos rfl,atKey_put_same f (dI.key (dJ b))]
 ·rw[if_neg a,atKey_put_other λd=>a (mH b e d)]
theorem GM.put_of(h:GM base mb n N f sl w){k:Int×Int}(i:I2 k){w1 w2:World}(E:bE (λb=>b=mb\/(sl k).ownBlock=some b) w w1){v:Value}{l:List (Tm N)}(H:l≠[])(J:oA base N v l w1)(z:∀b,v.ownBlock=some b->(sl k).ownBlock=some b\/w.heap.size<=b)(y:bE (λb=>b=mb) w1 w2)(K:∀D,w.ownsMap Tryz.prog 44 l7 mb n D->w2.ownsMap Tryz.prog 44 l7 mb (n+1) (D.put (kl k) (.held v))):GM base mb (n+1) N (fK f k l) (fK sl k v) w2:=by
 obtain⟨D,j,C,t⟩:=h.map;have M:=j.lt;have I:∀b,v.ownBlock=some b->b≠mb:=λb e a=>by
  subst a;rcases z b e with a|a
  ·exact h.ne i a
  ·omega
 have A:∀c,I2 c->c≠k->∀b,(sl c).ownBlock=some b->v.ownBlock≠some b:=λc d G b e L=>by
  rcases z b L with a|a
  ·exact h.apart c k d i G b e a
  ·have:=((h.row c d).lt b e).2;omega
 refine⟨h.lo,⟨_,K D j,λc d=>?_,λx=>?_⟩,λc d=>?_,λp c u d o b=>?_⟩
 ·rw[sO j.isMap i d];unfold fK;split
  ·rfl
  ·exact C c d
 ·constructor
  ·intro B;by_cases a:x=kl k
   ·exact⟨k,i,a,by rw[cE];exact H⟩
   ·rw[has_put_other a]at B;obtain⟨c,d,s,m⟩:=(t x).1 B;refine⟨c,d,s,?_⟩;rw[bK _ _ λg=>a (by rw[s,g])];exact m
  ·rintro ⟨c,d,rfl,m⟩;by_cases a:c=k
   ·rw[a,has_put_same j.isMap (dI.key (dJ i))]
   ·rw[has_put_other λg=>a (mH d i g)];rw[bK _ _ a]at m;exact(t _).2 ⟨c,d,rfl,m⟩
 ·by_cases a:c=k
  ·subst a;rw[cE,cE];exact bB J y λb e a=>I b e a
  ·rw[bK _ _ a,bK _ _ a];refine bB (bB (h.row c d) E λb e g=>?_) y λb e g=>h.ne d (by rw[e,g]);rcases g with g|g
   ·exact h.ne d (by rw[e,g])
   ·exact h.apart c k d i a b e g
 ·by_cases q:p=k
  ·subst q;rw[cE,bK _ _ λa=>o a.symm];exact λe F=>A c d (λa=>o a.symm) b F e
  ·rw[bK _ _ q];by_cases r:c=k
   ·subst r;rw[cE];exact λe=>A p u o b e
   ·rw[bK _ _ r];exact h.apart p c u d o b
theorem gq{w2:World}(a:w.mapTurned w2 mb):bE (λb=>b=mb) w w2/\w2.heap.size=w.heap.size:=by
 refine⟨(eM a.grown).mono λb _ c=>(az c).symm,?_⟩;obtain⟨_,_,_,_,_,rfl⟩:=a;simp[ChangeMaps.setBlock]
theorem GM.store(g:GM base mb n N f sl w){k:Int×Int}(h:I2 k){w1:World}(i:bE (λb=>(sl k).ownBlock=some b) w w1){v:Value}{l:List (Tm N)}(x:l≠[])(A:oA base N v l w1)(y:∀b,v.ownBlock=some b->(sl k).ownBlock=some b\/w.heap.size<=b)(F:n<1000000):∃w2,(Instr.mapUpdate 51 (.map (some mb)) (pk k) v).run Tryz.prog w1=.ok () w2/\GM base mb (n+1) N (fK f k l) (fK sl k v) w2/\bE (λb=>b=mb) w1 w2/\w2.heap.size=w1.heap.size:=by
 have p:∀a,w.ownsMap Tryz.prog 44 l7 mb n a->∃w2,(Instr.mapUpdate 51 (.map (some mb)) (pk k) v).run Tryz.prog w1=.ok () w2/\w2.ownsMap Tryz.prog 44 l7 mb (n+1) (a.put (kl k) (.held v))/\w1.mapTurned w2 mb:=by
  intro a c;have z:=c.lt;have t:w1.ownsMap Tryz.prog 44 l7 mb n a:=by
   obtain⟨es,r,u,C⟩:=c;exact⟨es,r,(i.block mb z (g.ne h)).trans u,C⟩
  exact t.store (d:=.held v) (ps:=[]) dI underlying51 (by unfold maxLen;omega) (dJ h) rfl
 obtain⟨a,c,_⟩:=g.map;obtain⟨w2,m,_,E⟩:=p a c;obtain⟨j,D⟩:=gq E;refine⟨w2,m,g.put_of h (i.mono λb _ e=>ak e) x A y j (λq s=>?_),j,D⟩;obtain⟨G,o,B,_⟩:=p q s;rw[m]at o;injection o with _ e;rw[e];exact B
theorem GM.entry(s:GM base mb n N f sl w){k:Int×Int}(g:I2 k)(ak:n<1000000):∃(q:Nat)(w1:World),(Instr.mapEntry 51 (.map (some mb)) (pk k)).run Tryz.prog w=.ok (.tuple #[sl k,goInt q]) w1/\bE (λb=>b=mb) w w1/\w1.heap.size=w.heap.size/\ ∀(w2:World)(v:Value)(l:List (Tm N)),w2.heap[mb]?=w1.heap[mb]? ->bE (λb=>b=mb\/(sl k).ownBlock=some b) w w2->l≠[]->oA base N v l w2->(∀b,v.ownBlock=some b->(sl k).ownBlock=some b\/w.heap.size<=b)-> ∃i,(Instr.entryStore 51 (.map (some mb)) (goInt q) v).run Tryz.prog w2=.ok () i/\GM base mb (n+1) N (fK f k l) (fK sl k v) i/\bE (λb=>b=mb) w2 i/\i.heap.size=w2.heap.size:=by
 obtain⟨I,t,aj,_⟩:=s.map;obtain⟨es,r,c,j,Z,P⟩:=t;have t:w.ownsMap Tryz.prog 44 l7 mb n I:=⟨es,r,c,j,Z,P⟩;obtain⟨ah,q,o,m,X,H,aa⟩:=WideElems.entry_then_store (e:=29) mr.law underlying51 sJ c j (dJ g);have K:ah=sl k:=by
  have x:=s.look g;obtain⟨am,ps,Y,al⟩:=t.lookup dI underlying51 (sJ w) (zd:=.held lZ) (zp:=[]) rfl (dJ g);rw[x]at Y;rcases Maps.fit_look false dI underlying51 (sJ w) c j (dJ g)with⟨a,z,_⟩|⟨L,an,E,p,a,_⟩
  ·rw[x]at a;injection a with a _;rcases H with⟨B,y,h,_⟩|⟨_,rfl⟩
   ·exact absurd h (z B y)
   ·exact a.symm
  ·rw[x]at a;injection a with a _;rcases H with⟨B,y,h,rfl⟩|⟨z,_⟩
   ·have:=entry_eq_of_key ((MapKept.stamped_iff es r).1 j.stamped).2.2 E y (p.trans h.symm);simp at a;rw[a,this]
   ·exact absurd p (z L E)
 subst K;have ab:w.mapTurned (ChangeMaps.setBlock w mb (.map o m)) mb:=⟨es,r,o,m,c,rfl⟩;obtain⟨p,af⟩:=gq ab;refine⟨q,_,X,p,af,λw2 v l ae Q R T S=>?_⟩;have u:w2.heap[mb]?=some (.map o m):=ae.trans (jA c _);obtain⟨C,A,U,V⟩:=aa w2 v u;have ad:w2.mapTurned (ChangeMaps.setBlock w2 mb (.map C A)) mb:=⟨o,m,C,A,u,rfl⟩;obtain⟨h,ag⟩:=gq ad;refine⟨_,U,s.put_of g Q R T S h (λai O=>?_),h,ag⟩;obtain⟨i,G,F,_⟩:=O.store (d:=.held v) (ps:=[]) dI underlying51 (by unfold maxLen;omega) (dJ g) rfl;rw[V]at G;injection G with _ e;rw[<-e]at F;obtain⟨M,J,D,W⟩:=F;rw[jA c]at D;exact⟨M,J,(jA u _).trans D,W⟩
theorem GM.drop(h:GM base mb n N f sl w){k:Int×Int}(l:I2 k)(ty:TypeId):∃w2,(Builtin.delete_ #[51,44] ty #[.map (some mb),pk k]).run Tryz.prog w=.ok (.tuple #[]) w2/\GM base mb n N (fK f k []) (fK sl k lZ) w2/\bE (λb=>b=mb) w w2/\w2.heap.size=w.heap.size:=by
 obtain⟨D,t,u,q⟩:=h.map;obtain⟨w2,A,z,C⟩:=t.drop dI underlying51 (dJ l) ty;obtain⟨r,B⟩:=gq C;refine⟨w2,A,⟨h.lo,⟨_,z,λc d=>?_,λx=>?_⟩,λc d=>?_,λs c v d y b=>?_⟩,r,B⟩
 ·by_cases a:c=k
  ·subst a;rw[cE,atKey_del_same]
  ·rw[bK _ _ a,atKey_del_other λe=>a (mH d l e)];exact u c d
 ·constructor
  ·intro j;by_cases a:x=kl k
   ·rw[a,has_del_same]at j;cases j
   ·rw[has_del_other a]at j;obtain⟨c,d,p,g⟩:=(q x).1 j;refine⟨c,d,p,?_⟩;rw[bK _ _ λe=>a (by rw[p,e])];exact g
  ·rintro ⟨c,d,rfl,g⟩;by_cases a:c=k
   ·rw[a,cE]at g;exact absurd rfl g
   ·rw[has_del_other λe=>a (mH d l e)];rw[bK _ _ a]at g;exact(q _).2 ⟨c,d,rfl,g⟩
 ·by_cases a:c=k
  ·subst a;rw[cE,cE];exact⟨by simp[dw,cO],aj ⟨rfl,rfl⟩⟩
  ·rw[bK _ _ a,bK _ _ a];exact bB (h.row c d) r λb i e=>h.ne d (by rw[i,e])
 ·by_cases m:s=k
  ·subst m;rw[cE];intro i;simp[lZ,Value.ownBlock]at i
  ·rw[bK _ _ m];by_cases o:c=k
   ·subst o;rw[cE];intro _ i;simp[lZ,Value.ownBlock]at i
   ·rw[bK _ _ o];exact h.apart s c v d y b
theorem xB{P:Program}(w:ag)(t ty e:TypeId)(i:TypeInfo)(x:P.underlying t=some (.slice e))(r:P.info? e=some i)(g d k:Nat)(f:Array au)(q:w.heap[g]?=some (.cells f e (0,0)))(a:Addr)(m c:Nat)(b:cX)(s:b.length=m*i.size)(u:∀j h,b[j]?=some h->w.cell? (a.add j)=some h)(n:∀h∈b,h.oneCell'=true)(v:d+m<=k)(p:d*i.size+b.length<=f.size):(Builtin.append_ #[t,t] ty #[ae (some ⟨g,0,none⟩) d k,ae (some a) m c]).run P w= .ok (ae (some ⟨g,0,none⟩) (d+m) k) (w.setRow g (f.toList.take (d*i.size)++b++f.toList.drop (d*i.size+b.length)).toArray):=by
 have o:=run_firstCells_some (P:=P) w i.size m a m c b s u;have l:=pX P g (d*i.size) e b 0 f w q (by simpa using p) n;simp only[iY]at l;simp[Builtin.append_,cC x,sizeOf,typeInfo,r,Builtin.lenOf,v,o,eU,l]
theorem Hp:(Tryz.prog.info? 31).map (λi=>(i.zero,i.size,i.bytes))=some (some (.agg #[ab 0,ab 0,af ⟨#[]⟩,ae none 0 0]),4,56):=by kernel_rfl
def qw:List au:=[ab 0,ab 0,af ⟨#[]⟩,ae none 0 0]
theorem xD(w:ag)(ty:TypeId)(g o c:Nat)(a:Array au)(e:w.heap[g]?=some (.cells a 31 (0,0)))(d:o+4<=a.size):(Builtin.clear_ #[29] ty #[ae (some ⟨g,o,none⟩) 1 c]).run Tryz.prog w=.ok (.tuple #[]) (w.setRow g (a.toList.take o++qw++a.toList.drop (o+4)).toArray):=by
 have b:=pX Tryz.prog g o 31 qw 0 a w e (by simpa [qw]using d) (by simp[qw,Value.oneCell']);have h:(Builtin.zeroCells (Value.agg #[ab 0,ab 0,af ⟨#[]⟩,ae none 0 0]).cells 1).toList=qw:=by
  simp[Builtin.zeroCells,Value.cells,qw];rfl
 simp only[iY]at b;have f:qw.length=4:=rfl;rw[f]at b;simp[Builtin.clear_,cC underlying29,h,b]
theorem LK(w:ag)(g L c:Nat)(b:L<=c)(d:1<=L):(Instr.slice 29 (ae (some ⟨g,0,none⟩) L c) (some (ab 0)) (some (ab 1)) (some (ab L))).run Tryz.prog w=.ok (ae (some ⟨g,0,none⟩) 1 L) w:=by
 have a:(1:Int)<=(L:Int):=by omega
 simp[Instr.slice,cC underlying29,Instr.sliceBounds,Instr.sliceBound,asIntOf,a,b,go_sem]
theorem ET(w:ag)(g L c:Nat):(Instr.slice 29 (ae (some ⟨g,0,none⟩) L c) none (some (ab 0)) none).run Tryz.prog w=.ok (ae (some ⟨g,0,none⟩) 0 c) w:=by
 simp[Instr.slice,cC underlying29,Instr.sliceBounds,Instr.sliceBound,asIntOf,go_sem]
theorem EU(w:ag)(g L c:Nat)(d:L<=c)(e:2<=L):(Instr.slice 29 (ae (some ⟨g,0,none⟩) L c) (some (ab 1)) none none).run Tryz.prog w=.ok (ae (some ⟨g,4,none⟩) (L-1) (c-1)) w:=by
 have a:(1:Int)<=(L:Int):=by omega
 have b:¬c=1:=by omega
 simp[Instr.slice,cC underlying29,Instr.sliceBounds,Instr.sliceBound,asIntOf,a,b,go_sem,eU]
theorem ES(w:ag)(g m c:Nat)(e:m+1<=c):(Instr.slice 29 (ae (some ⟨g,0,none⟩) m c) (some (ab m)) (some (ab ((m:Int)+1))) none).run Tryz.prog w=.ok (ae (some ⟨g,m*4,none⟩) 1 (c-m)) w:=by
 have a:¬c=m:=by omega
 have b:(m:Int)+1<=(c:Int):=by omega
 have d:(0:Int)<=(m:Int)+1:=by omega
 simp[Instr.slice,cC underlying29,Instr.sliceBounds,Instr.sliceBound,asIntOf,a,b,d,go_sem,eU]
theorem uv{w w':ag}{v x' c:au}{b:Array Oper}{o:Oper}{a:Act}{K:Act->bt}{Q:Exit->Act->bt}{E:Prop}(e:o.guard=none)(s x:Operand)(f:o.op=.call {callee:=.builtin .append,args:= #[s,x],argTypes:= #[29,29]})(h:a.eval s=v)(j:a.eval x=x')(g:(Builtin.append_ #[29,29] o.type #[v,x']).run Tryz.prog w=.ok c w')(d:K (a.put o.dst c) w'):if Region.wanted o (yielded b a.tmps)=true then Oper.wp Tryz.prog o a w K Q else E:=by
 have i:Region.wanted o (yielded b a.tmps)=true:=by simp[Region.wanted,e]
 rw[if_pos i];unfold Oper.wp execOp;simp only[f,resolve,invoke,builtin,Sem.run_bind,Sem.run_pure,nH,nA,aV,cF,h,j,g];exact d
theorem ah{w:ag}{g:Nat}{a:Array au}{e:TypeId}(b:w.heap[g]?=some (.cells a e (0,0)))(j:Nat):w.cell? ⟨g,j,none⟩=a.toList[j]? :=by
 simp[World.cell?,b]
theorem DO{N:Nat}(base g c m:Nat)(y:Tm N)(l:List (Tm N))(w:ag)(j:l.length=m)(D:oA base N (ae (some ⟨g,0,none⟩) (m+1) c) (y::l) w)(E:l≠[]):ao 84 #[ae (some ⟨g,0,none⟩) ((m:Nat)+1) c,ab 0,ab 1] w λe w'=>e=.returned (ae (some ⟨g,0,none⟩) m c)/\oA base N (ae (some ⟨g,0,none⟩) m c) l w'/\w.grownBy w' (some g)/\w'.heap.size=w.heap.size:=by
 obtain⟨S,L,Z,Q,aa⟩:=bY Hp;have Y:0<m:=by
  rw[<-j];exact List.length_pos_iff.2 E
 obtain⟨F,G⟩:=D;rcases G with⟨e,_⟩|⟨V,cap,d,e,K,r,I,J,u,t⟩
 ·cases e
 ·injection e with i B C;injection i with i;injection i with i _;subst i C;simp only[bA,j]at F I t B;have q:d.toList.length=c*4:=by rw[iR,u]
  have O:d.toList.take ((m+1)*4)=dw N [y]++dw N l:=by
   rw[t,<-qp];rfl
  have T:(dw N [y]).length=4:=by rw[qq];rfl
  have f:(dw N l).length=m*4:=by rw[qq,j]
  have A:Hid (∀a:ag,a.heap[g]?=some (.cells d 31 (0,0))->∀n o,(dw N l)[n]?=some o->a.cell? ((⟨g,4,none⟩:Addr).add n)=some o):=by
   intro a h n o s;have X:=(aZ.1 s).1;rw[eU,ah h];have e:(d.toList.take ((m+1)*4))[4+n]?=some o:=by
    rw[O,dR (by omega),T,Nat.add_sub_cancel_left];exact s
   rw[jG]at e;split at e
   ·exact e
   ·cases e
  have v:Hid (∀(a:ag)(ty:TypeId),a.heap[g]?=some (.cells d 31 (0,0))->(Builtin.append_ #[29,29] ty #[ae (some ⟨g,0,none⟩) 0 c,ae (some ⟨g,4,none⟩) m (c-1)]).run Tryz.prog a=
   .ok (ae (some ⟨g,0,none⟩) m c) (a.setRow g (dw N l++d.toList.drop (m*4)).toArray)):=by
   intro a ty h;have p:=xB (P:=Tryz.prog) a 29 ty 31 S underlying29 L g 0 c d h ⟨g,4,none⟩ m (c-1) (dw N l) (by rw[f,Q]) (A a h) (tP _) (by omega) (by rw[f,u];omega);simpa [f]using p
  have z:Hid (∀(a:ag)(ty:TypeId),a.heap[g]?=some (.cells (dw N l++d.toList.drop (m*4)).toArray 31 (0,0))->(Builtin.clear_ #[29] ty #[ae (some ⟨g,m*4,none⟩) 1 (c-m)]).run Tryz.prog a=
   .ok (.tuple #[]) (a.setRow g (dw N l++qw++d.toList.drop ((m+1)*4)).toArray)):=by
   intro a ty h;have p:=xD a ty g (m*4) (c-m) _ h (by simp only[ew,bz,fw,f,q];omega);rw[p];refine congrArg (λx=>Result.ok (Value.tuple #[]) (a.setRow g (List.toArray x))) ?_;rw[pT,iW (by omega),bD (by omega),List.drop_append,pO (by omega),f,List.drop_drop,iy];rw[show m*4+(m*4+4-m*4)=(m+1)*4 by omega]
  have H:=v w.drew 29 r;have HB:Hid ((w.drew.setRow g (dw N l++d.toList.drop (m*4)).toArray).heap[g]?=some (.cells (dw N l++d.toList.drop (m*4)).toArray 31 (0,0))):=setRow_heap w.drew g d _ _ _ r;have W:=λty:TypeId=>z _ ty HB;have ad:=λa:ag=>LK a g (m+1) c (by omega) (by omega);have af:=λa:ag=>ET a g (m+1) c;have U:=λa:ag=>EU a g (m+1) c (by omega) (by omega);have ai:=λa:ag=>ES a g m c (by omega);rw[fx]at U;go_enter func84,ntmps84;go_wp2_with fail;go_region_held3 (λ_=>True) (trivial) ((first|(refine uv rfl _ _ rfl (by simp[Act.eval]) (by simp[Act.eval]) H ?_)));go_wp2_with fail
  go_ret
  have k:∀b,b≠g->((w.drew.setRow g (dw N l++d.toList.drop (m*4)).toArray).setRow g (dw N l++(qw++d.toList.drop ((m+1)*4))).toArray).heap[b]?=w.heap[b]? :=λb k=>(setRow_other _ _ _ _ k).trans (setRow_other _ _ _ _ k);refine⟨rfl,⟨by rw[f,j],ak ⟨g,c,_,by rw[j],K,setRow_heap _ _ _ _ _ _ HB,by omega,J,?_,?_⟩⟩,⟨rfl,rfl,rfl,by simp,λb _ M=>k b λe=>M (by rw[e])⟩,by simp⟩
  ·have R:qw.length=4:=rfl;simp only[ew,bz,fw,f,q,R];omega
  ·rw[pT,iW (by omega),bD (by omega)]
abbrev Ac(n:Nat):Type:=Int×(Tm n×Tm n)×(aq×Int)
abbrev Cl(n:Nat):Type:=(Tm n×Tm n×Tm n)×(ar×Nat)×List (Ac n)
abbrev Bh(n:Nat):Type:=aq×(ar×Nat)×List (Cl n)
def iQ(n:Nat)(x:Tm n):List au:=uk (gK n x)
def gH(n:Nat)(a:Ac n):List au:=ab a.1::(iQ n a.2.1.1++iQ n a.2.1.2++ [af a.2.2.1,ab a.2.2.2])
def fy(n:Nat)(c:Cl n):List au:=iQ n c.1.1++iQ n c.1.2.1++(ae c.2.1.1 c.2.2.length c.2.1.2::iQ n c.1.2.2)
def p7(n:Nat)(b:Bh n):List au:=[af b.1,ae b.2.1.1 b.2.2.length b.2.1.2]
def qz{c:Type}(B:Nat)(w:ag)(k:Nat)(f:c->List au)(i:c->Prop)(a:ar)(l:List c):Prop:=
 l=[]\/∃b o,a=some ⟨b,o,none⟩/\b<B/\∀(e:Nat)(d:c),l[e]?=some d->(∀(g:Nat)(h:au),(f d)[g]?=some h->w.cell? ⟨b,o+e*k+g,none⟩=some h)/\i d
def jd(n:Nat)(B:Nat)(w:ag)(a:Ac n):Prop:=dN a.1/\In B w n a.2.1.1/\In B w n a.2.1.2/\a.2.2.1.size<=maxLen/\dN a.2.2.2
def iE(n:Nat)(B:Nat)(w:ag)(c:Cl n):Prop:=(In B w n c.1.1/\In B w n c.1.2.1/\In B w n c.1.2.2)/\(c.2.2.length<=c.2.1.2/\c.2.1.2<=maxLen)/\qz B w 11 (gH n) (jd n B w) c.2.1.1 c.2.2
def pY(n:Nat)(B:Nat)(w:ag)(b:Bh n):Prop:=b.1.size<=maxLen/\(b.2.2.length<=b.2.1.2/\b.2.1.2<=maxLen)/\qz B w 13 (fy n) (iE n B w) b.2.1.1 b.2.2
def ue{c:Type}(d:c->Prop)(P:aO)(a:ar)(l:List c):Prop:=l=[]\/∃b o,a=some ⟨b,o,none⟩/\P b/\∀y∈l,d y
def mL(n:Nat)(P:aO)(a:Ac n):Prop:=cD P n a.2.1.1/\cD P n a.2.1.2
def ku(n:Nat)(P:aO)(c:Cl n):Prop:=(cD P n c.1.1/\cD P n c.1.2.1/\cD P n c.1.2.2)/\ue (mL n P) P c.2.1.1 c.2.2
def kp(n:Nat)(P:aO)(b:Bh n):Prop:=ue (ku n P) P b.2.1.1 b.2.2
def kv{d:Type}(e:Nat->ag->d->Prop)(f:(Nat->Prop)->d->Prop):Prop:=
 (∀(c h:aO)(x:d),(∀b,c b->h b)->f c x->f h x)/\(∀(c:aO)(a:Nat)(w:ag)(x:d),f c x->e a w x->f (λb=>c b/\b<a) x)/\
 (∀(c:aO)(a:Nat)(w i:ag)(x:d),(∀b,c b->i.heap[b]?=w.heap[b]?)->f c x->e a w x->e a i x)/\(∀(a g:Nat)(w:ag)(x:d),a<=g->e a w x->e g w x)/\
 (∀(a:Nat)(w:ag)(x:d),e a w x->f (λb=>b<a) x)
theorem pq{B:Nat}{w:ag}:{n:Nat}->{x:Tm n}->In B w n x->cD (λb=>b<B) n x
 | 0,_,k=>k
 | _+1,_,k=>by
  obtain⟨_,a⟩:=k;rcases a with a|⟨b,o,e,c,a⟩
  ·exact aj a
  ·exact ak ⟨b,o,e,c,λi y d=>pq (a i y d).2⟩
theorem eG(n:Nat):kv (λB w x=>In B w n x) (λP x=>cD P n x):=
 ⟨λ_ _ _ a k=>k.mono a,λ_ _ _ _ a k=>In.offB a k,λ_ _ _ _ _ a b k=>In.off a b k,λ_ _ _ _ a k=>k.mono a,λ_ _ _ k=>pq k⟩
theorem f9(n:Nat):kv (jd n) (mL n):=by
 obtain⟨t1,t2,t3,t4,t5⟩:=eG n
 exact⟨λc e x b k=>⟨t1 c e _ b k.1,t1 c e _ b k.2⟩,λc a w x b k=>⟨t2 c a w _ b.1 k.2.1,t2 c a w _ b.2 k.2.2.1⟩,
  λc a w g x b f k=>⟨k.1,t3 c a w g _ b f.1 k.2.1,t3 c a w g _ b f.2 k.2.2.1,k.2.2.2⟩,λa d w x b k=>⟨k.1,t4 a d w _ b k.2.1,t4 a d w _ b k.2.2.1,k.2.2.2⟩,
  λa w x k=>⟨t5 a w _ k.2.1,t5 a w _ k.2.2.1⟩⟩
theorem cU{q:Type}{r:Nat->ag->q->Prop}{s:(Nat->Prop)->q->Prop}(d:kv r s)(k:Nat)(f:q->List au)(a:ar):kv (λB w l=>qz B w k f (r B w) a l) (λP l=>ue (s P) P a l):=by
 obtain⟨t1,t2,t3,t4,t5⟩:=d;refine⟨λP u x d k=>?_,λP B w x d k=>?_,λP B w D x d m k=>?_,λB t w x d k=>?_,λB w x k=>?_⟩
 ·rcases k with k|⟨b,o,g,i,k⟩
  ·exact aj k
  ·exact ak ⟨b,o,g,d b i,λc e=>t1 P u c d (k c e)⟩
 ·rcases k with k|⟨b,o,g,i,k⟩
  ·exact aj k
  ·rcases d with d|⟨v,A,j,n,d⟩
   ·exact aj d
   ·rw[g]at j;simp at j;obtain⟨rfl,rfl⟩:=j;refine ak ⟨b,o,g,⟨n,i⟩,λc e=>?_⟩;obtain⟨h,p⟩:=dp e;exact t2 P B w c (d c e) (k h c p).2
 ·rcases k with k|⟨b,o,g,i,k⟩
  ·exact aj k
  ·rcases m with m|⟨v,A,j,n,m⟩
   ·exact aj m
   ·rw[g]at j;simp at j;obtain⟨rfl,rfl⟩:=j;exact ak ⟨b,o,g,i,λh c e=>⟨λz C y=>(bH (d b n) _).trans ((k h c e).1 z C y),t3 P B w D c d (m c (aL e)) (k h c e).2⟩⟩
 ·rcases k with k|⟨b,o,g,i,k⟩
  ·exact aj k
  ·exact ak ⟨b,o,g,by omega,λh c e=>⟨(k h c e).1,t4 B t w c d (k h c e).2⟩⟩
 ·rcases k with k|⟨b,o,g,i,k⟩
  ·exact aj k
  ·refine ak ⟨b,o,g,i,λc e=>?_⟩;obtain⟨h,p⟩:=dp e;exact t5 B w c (k h c p).2
theorem eP(n:Nat):kv (iE n) (ku n):=by
 obtain⟨t1,t2,t3,t4,t5⟩:=eG n;have d:=λi=>cU (f9 n) 11 (gH n) i
 exact⟨λc f x b k=>⟨⟨t1 c f _ b k.1.1,t1 c f _ b k.1.2.1,t1 c f _ b k.1.2.2⟩,(d _).1 c f _ b k.2⟩,
  λc a w x b k=>⟨⟨t2 c a w _ b.1.1 k.1.1,t2 c a w _ b.1.2.1 k.1.2.1,t2 c a w _ b.1.2.2 k.1.2.2⟩,(d _).2.1 c a w _ b.2 k.2.2⟩,
  λc a w h x b g k=>⟨⟨t3 c a w h _ b g.1.1 k.1.1,t3 c a w h _ b g.1.2.1 k.1.2.1,t3 c a w h _ b g.1.2.2 k.1.2.2⟩,k.2.1,(d _).2.2.1 c a w h _ b g.2 k.2.2⟩,
  λa e w x b k=>⟨⟨t4 a e w _ b k.1.1,t4 a e w _ b k.1.2.1,t4 a e w _ b k.1.2.2⟩,k.2.1,(d _).2.2.2.1 a e w _ b k.2.2⟩,
  λa w x k=>⟨⟨t5 a w _ k.1.1,t5 a w _ k.1.2.1,t5 a w _ k.1.2.2⟩,(d _).2.2.2.2 a w _ k.2.2⟩⟩
theorem eD(n:Nat):kv (pY n) (kp n):=by
 have c:=λg=>cU (eP n) 13 (fy n) g
 exact⟨λd f x b k=>(c _).1 d f _ b k,λd a w x b k=>(c _).2.1 d a w _ b k.2.2,λd a w i x b h k=>⟨k.1,k.2.1,(c _).2.2.1 d a w i _ b h k.2.2⟩,
  λa e w x b k=>⟨k.1,k.2.1,(c _).2.2.2.1 a e w _ b k.2.2⟩,λa w x k=>(c _).2.2.2.2 a w _ k.2.2⟩
def gL(n:Nat)(B:Nat)(w:ag)(a:ar)(l:List (Bh n)):Prop:=qz B w 2 (p7 n) (pY n B w) a l
theorem kv.below{c:Type}{a:Nat->ag->c->Prop}{e:(Nat->Prop)->c->Prop}(d:kv a e){B:Nat}{w w':ag}(f:Below B w w'){x:c}(k:a B w x):a B w' x:=
 d.2.2.1 (λb=>b<B) B w w' x (λb g=>f.block b g) (d.2.2.2.2 B w x k) k
theorem kv.mono{b:Type}{a:Nat->ag->b->Prop}{c:(Nat->Prop)->b->Prop}(d:kv a c){B C:Nat}(e:B<=C){w:ag}{x:b}(k:a B w x):a C w x:=d.2.2.2.1 B C w x e k
theorem gL.below{n B:Nat}{w w':ag}{a:ar}{l:List (Bh n)}(b:Below B w w')(k:gL n B w a l):gL n B w' a l:=(cU (eD n) 2 (p7 n) a).below b k
theorem gL.mono{n B C:Nat}(b:B<=C){w:ag}{a:ar}{l:List (Bh n)}(k:gL n B w a l):gL n C w a l:=(cU (eD n) 2 (p7 n) a).mono b k
def fF{a:Type}(d:Nat->ag->a->Prop)(e:(Nat->Prop)->a->Prop)(f:a->List au)(k:Nat)(T:TypeId)(B base:Nat)(xs:List a)(v:au)(w0 wr:ag):Prop:=
 Below base w0 wr/\wr.ownsRow base T k v xs.length (xs.flatMap f)/\∀c∈xs,d wr.heap.size wr c/\e (λb=>(b<B\/base<=b)/\v.ownBlock≠some b) c
theorem fF.nil{a:Type}{b:Nat->ag->a->Prop}{c:(Nat->Prop)->a->Prop}{f:a->List au}{k:Nat}{T:TypeId}{B base:Nat}(w:ag):fF b c f k T B base [] (ae none 0 0) w w:=
 ⟨aA _ _,eZ _ _ _ _,λe d=>by cases d⟩
theorem fF.later{b:Type}{c:Nat->ag->b->Prop}{d:(Nat->Prop)->b->Prop}(e:kv c d){f:b->List au}{k:Nat}{T:TypeId}{B base:Nat}{xs:List b}{v:au}{w0 wr w1:ag}(j:fF c d f k T B base xs v w0 wr)(l:base<=wr.heap.size)(a:am wr w1):fF c d f k T B base xs v w0 w1:=by
 obtain⟨m,n,h⟩:=j;exact⟨m.trans (a.mono l),ez n a,λi g=>⟨e.mono a.size (e.below a (h i g).1),(h i g).2⟩⟩
theorem fF.step{q:Type}{r:Nat->ag->q->Prop}{s:(Nat->Prop)->q->Prop}(e:kv r s){f:q->List au}{k:Nat}{T:TypeId}{B base:Nat}{xs:List q}{v:au}{w0 wr w1 w2:ag}(D:fF r s f k T B base xs v w0 wr)(L:B<=base)(y:base<=wr.heap.size)(j:am wr w1)(h:q)(w:r w1.heap.size w1 h)(F:s (λb=>b<B\/wr.heap.size<=b) h){g c:Nat}(H:w2.ownsRow base T k (ae (some ⟨g,0,none⟩) (xs.length+1) c) (xs.length+1) (xs.flatMap f++f h))(m:w1.grownBy w2 v.ownBlock)(x:v.ownBlock=some g\/g=w1.heap.size):fF r s f k T B base (xs++ [h]) (ae (some ⟨g,0,none⟩) (xs.length+1) c) w0 w2:=by
 obtain⟨o,J,K⟩:=D;have u:∀b,v.ownBlock=some b->base<=b/\b<wr.heap.size:=λb d=>J.lt b d;have t:∀b,b<w1.heap.size->v.ownBlock≠some b->w2.heap[b]?=w1.heap[b]? :=λb y G=>m.block b y (λd=>G d.symm);have E:=j.size;have z:=m.size;refine⟨⟨(m.os.trans j.os).trans o.os,(m.tape.trans j.tape).trans o.tape,(m.output.trans j.output).trans o.output,by have:=o.size;omega,λb a=>?_⟩,?_,?_⟩
 ·exact(t b (by omega) (λd=>by have:=(u b d).1;omega)).trans ((j.block b (by omega)).trans (o.block b a))
 ·have C:(xs++ [h]).length=xs.length+1:=by simp
  have i:(xs++ [h]).flatMap f=xs.flatMap f++f h:=by simp
  rw[C,i];exact H
 ·intro p l;rcases de.1 l with l|l
  ·obtain⟨A,I⟩:=K p l;have n:=e.2.1 _ _ _ _ I A;refine⟨e.mono z (e.2.2.1 _ _ w1 w2 p (λb a=>t b ?_ a.1.2) n (e.mono E (e.below j A))),e.1 _ _ p (λb a=>⟨a.1.1,?_⟩) n⟩
   ·have:=a.2;omega
   ·simp only[Value.ownBlock];intro d;injection d with d;rcases x with i|i
    ·exact a.1.2 (by rw[i,d])
    ·have:=a.2;omega
  ·simp only[dC]at l;subst l;have n:=e.2.1 _ _ _ _ F w;refine⟨e.mono z (e.2.2.1 _ _ w1 w2 p (λb a=>t b a.2 (λd=>?_)) n w),e.1 _ _ p (λb a=>⟨?_,?_⟩) n⟩
   ·have:=u b d;have:=a.1;omega
   ·have:=a.1;omega
   ·simp only[Value.ownBlock];intro d;injection d with d;rcases x with i|i
    ·have:=u g i;have:=a.1;omega
    ·have:=a.2;omega
theorem fF.lit{d:Type}{e:Nat->ag->d->Prop}{g:(Nat->Prop)->d->Prop}(a:kv e g){f:d->List au}{k:Nat}{T:TypeId}{B base:Nat}(xs:List d){w0 w1:ag}{cs:Array au}(i:cs.toList=xs.flatMap f)(r:∀x,(f x).length=k)(p:xs.length<=maxLen)(m:base<=w1.heap.size)(q:Below base w0 w1)(c:∀y∈xs,e w1.heap.size w1 y/\g (λb=>b<B\/base<=b) y):fF e g f k T B base xs (ae (some ⟨w1.heap.size,0,none⟩) xs.length xs.length) w0 (w1.alloc (.cells cs T)):=by
 have h:am w1 (w1.alloc (.cells cs T)):=aS _ _;have o:(xs.flatMap f).length=xs.length*k:=by
  clear i c p
  induction xs with
  | nil=>simp
  | cons x xs ih=>rw[bP,bz,ih,r,bA,Nat.succ_mul];omega
 have s:cs.size=xs.length*k:=by rw[<-o,<-i];simp
 refine⟨q.trans (h.mono m),⟨by rw[o],ak ⟨w1.heap.size,xs.length,cs,rfl,m,aD w1 _,av _,p,by omega,?_⟩⟩,λy j=>⟨a.mono h.size (a.below h (c y j).1),?_⟩⟩
 ·rw[i,bD (by omega)]
 ·refine a.1 _ _ y (λb n=>⟨n.1,?_⟩) (a.2.1 _ _ _ _ (c y j).2 (c y j).1);simp only[Value.ownBlock];intro l;injection l with l;have:=n.2;omega
theorem fF.lay{m:Type}{p:Nat->ag->m->Prop}{q:(Nat->Prop)->m->Prop}(y:kv p q){f:m->List au}{k:Nat}{T:TypeId}{B base:Nat}{xs:List m}{v:au}{w0 wr:ag}(u:∀x,(f x).length=k)(h:fF p q f k T B base xs v w0 wr):∃a c,v=ae a xs.length c/\(xs.length<=c/\c<=maxLen)/\qz wr.heap.size wr k f (p wr.heap.size wr) a xs/\ue (q (λb=>b<B\/base<=b)) (λb=>b<B\/base<=b) a xs:=by
 obtain⟨M,H,w⟩:=h;rcases H.2 with⟨r,J⟩|⟨s,cap,I,r,E,t,C,F,L,D⟩
 ·have G:xs=[]:=bL (by omega);subst G;exact⟨none,0,r,⟨av _,aM _⟩,aj rfl,aj rfl⟩
 ·refine⟨some ⟨s,0,none⟩,cap,r,⟨C,F⟩,ak ⟨s,0,rfl,(aI.1 t).1,λd e o=>⟨λg j n=>?_,(w e (aL o)).1⟩⟩,ak ⟨s,0,rfl,ak E,λe o=>y.1 _ _ e (λb A=>A.1) (w e o).2⟩⟩;have z:∀(l:List m)(d g:Nat)(e:m)(j:au),l[d]?=some e->(f e)[g]?=some j->(l.flatMap f)[d*k+g]?=some j:=by
   intro l
   induction l with
   | nil=>intro d g e j h;simp at h
   | cons x l ih=>
    intro d g e j h n;rw[bP];cases d with
    | zero=>
     simp at h;subst h;rw[dB (by have:=(aZ.1 n).1;omega)];simpa using n
    | succ d=>
     rw[dR (by rw[u,Nat.succ_mul];omega),u,Nat.succ_mul,show d*k+k+g-k=d*k+g by omega];exact ih d g e j (by simpa using h) n
  have i:=z xs d g e j o n;have K:=(aZ.1 i).1;rw[<-D]at i;rw[jG]at i;split at i
  ·rw[cT];simp only[World.cell?,t];rw[nv]at i;simpa using i
  ·cases i
def JG(i:Option (List An))(f:List An->Option (List An))(w:ag)(e:Ending)(w':ag):Prop:=
 ∃h len c d,e=.returned (.tuple #[ae h len c,.bool d])/\Hid (am w w'/\(i=none->d=false)/\∀b,i=some b->∃g:List (Tm (nJ b)),aG (λx k=>aB (nJ b) x (nJ b) k) g (De b)=true/\(f (oC (nJ b) g)=none->d=false)/\
  ∀a,f (oC (nJ b) g)=some a->d=true/\len=4/\a.length=4/\∃j l,w.heap.size<=j.heap.size/\il (nJ a) (De a) j w' h c l)
theorem EE(g h j k v x s0 s1 t0 t1:Int)(i m y q t2:aq)(pa n z sa K t:ar)(pl pc p o B A sl sc M L cl u:Nat)(R:Option (List An))(f:List An->Option (List An))(w:ag)(X:Hid (∀E W,am w E->il 1 (List.replicate 4 fH) E W (some ⟨E.heap.size,0,none⟩) 4 (List.replicate 4 fH)->ao 152 #[.agg #[ab g,ab h,af i,ae pa pl pc],.agg #[ab s0,ab s1,af q,ae sa sl sc],ae (some ⟨E.heap.size,0,none⟩) 4 4] W (zn 0 R W)))(aE:Hid (∀(b:List An)(l:List (Tm (nJ b)))(a:ar)(c:Nat)(E W:ag),am w W->R=some b->b.length=4->il (nJ b) (De b) E W a c l->ao 152 #[.agg #[ab j,ab k,af m,ae n p o],.agg #[ab t0,ab t1,af t2,ae K M L],ae a 4 c] W (zn 0 (f (oC (nJ b) l)) W))):ao 115 #[.agg #[ab g,ab h,af i,ae pa pl pc,ab j,ab k,af m,ae n p o,ae t cl u,ab v,ab x,af y,ae z B A],.agg #[ab s0,ab s1,af q,ae sa sl sc],.agg #[ab t0,ab t1,af t2,ae K M L]] w (JG R f w):=by
 go_enter func115,ntmps115;go_wp2_with fail;have Y:Hid (∃s d e F,(s=((w.alloc (.cells #[ab g,ab h,af i,ae pa pl pc,ab j,ab k,af m,ae n p o,ae t cl u,ab v,ab x,af y,ae z B A] 162)).alloc (.cells #[ab s0,ab s1,af q,ae sa sl sc] 31)).alloc (.cells #[ab t0,ab t1,af t2,ae K M L] 31)/\d=w.heap.size/\e=w.heap.size+1/\F=w.heap.size+2)/\am w s/\∀W,am s W->(ai W d 0 (ab g)/\ai W d 1 (ab h)/\ai W d 2 (af i)/\ai W d 3 (ae pa pl pc))/\(ai W d 4 (ab j)/\ai W d 5 (ab k)/\ai W d 6 (af m)/\ai W d 7 (ae n p o))/\(ai W e 0 (ab s0)/\ai W e 1 (ab s1)/\ai W e 2 (af q)/\ai W e 3 (ae sa sl sc))/\(ai W F 0 (ab t0)/\ai W F 1 (ab t1)/\ai W F 2 (af t2)/\ai W F 3 (ae K M L))):=by
  have aV:(w.alloc (.cells #[ab g,ab h,af i,ae pa pl pc,ab j,ab k,af m,ae n p o,ae t cl u,ab v,ab x,af y,ae z B A] 162)).heap.size=w.heap.size+1:=by simp
  have aW:((w.alloc (.cells #[ab g,ab h,af i,ae pa pl pc,ab j,ab k,af m,ae n p o,ae t cl u,ab v,ab x,af y,ae z B A] 162)).alloc (.cells #[ab s0,ab s1,af q,ae sa sl sc] 31)).heap.size=w.heap.size+2:=by simp
  refine⟨_,_,_,_,⟨rfl,rfl,rfl,rfl⟩,((aS _ _).alloc (by simp) _).alloc (by simp;omega) _,λW G=>?_⟩;have r:=(G.block w.heap.size (by simp;omega)).trans (((aS _ _).block w.heap.size (by simp;omega)).trans (((aS _ _).block w.heap.size (by simp)).trans (aD w (.cells #[ab g,ab h,af i,ae pa pl pc,ab j,ab k,af m,ae n p o,ae t cl u,ab v,ab x,af y,ae z B A] 162))));have au:=aD (w.alloc (.cells #[ab g,ab h,af i,ae pa pl pc,ab j,ab k,af m,ae n p o,ae t cl u,ab v,ab x,af y,ae z B A] 162)) (.cells #[ab s0,ab s1,af q,ae sa sl sc] 31);rw[aV]at au;have P:=(G.block (w.heap.size+1) (by simp)).trans (((aS _ _).block (w.heap.size+1) (by simp)).trans au);have av:=aD ((w.alloc (.cells #[ab g,ab h,af i,ae pa pl pc,ab j,ab k,af m,ae n p o,ae t cl u,ab v,ab x,af y,ae z B A] 162)).alloc (.cells #[ab s0,ab s1,af q,ae sa sl sc] 31)) (.cells #[ab t0,ab t1,af t2,ae K M L] 31);rw[aW]at av;have Q:=(G.block (w.heap.size+2) (by simp)).trans av;exact⟨⟨ah r 0,ah r 1,ah r 2,ah r 3⟩,⟨ah r 4,ah r 5,ah r 6,ah r 7⟩,⟨ah P 0,ah P 1,ah P 2,ah P 3⟩,ah Q 0,ah Q 1,ah Q 2,ah Q 3⟩
 obtain⟨s,d,e,F,⟨al,ad,aj,ak⟩,C,D⟩:=Y.out;rw[<-al,<-ak,<-aj,<-ad];replace C:=ap C;replace D:=ap D;clear al ad aj ak Y;obtain⟨⟨ax,ay,az,aB⟩,_,⟨y0,y1,y2,aC⟩,_⟩:=D.out s (aA _ _);have I:Hid (am s s.drew):=(aA _ _).drew;have O:Hid (∀W,am s W->(ai W d 0 (ab g)/\ai W d 1 (ab h)/\ai W d 2 (af i)/\ai W d 3 (ae pa pl pc))/\(ai W e 0 (ab s0)/\ai W e 1 (ab s1)/\ai W e 2 (af q)/\ai W e 3 (ae sa sl sc))):=λW G=>⟨(D W G).1,(D W G).2.2.1⟩
 go_region_held3 (λW=>(W.cell? ⟨d,0,none⟩=some (ab g)/\W.cell? ⟨d,1,none⟩=some (ab h)/\W.cell? ⟨d,2,none⟩=some (af i)/\W.cell? ⟨d,3,none⟩=some (ae pa pl pc))/\(W.cell? ⟨e,0,none⟩=some (ab s0)/\W.cell? ⟨e,1,none⟩=some (ab s1)/\W.cell? ⟨e,2,none⟩=some (af q)/\W.cell? ⟨e,3,none⟩=some (ae sa sl sc)))
  (first|(go_keep;done)|exact O _ I|exact O _ S|exact O _ N) ((first
   | (go_at_call 153;refine(Ce _).mono ?_;rintro Z ba ⟨rfl,U⟩;have N:=ap (I.trans (U.1.mono I.size)))
   | (go_at_call 152;refine(X _ _ (C.trans (I.mono C.size)) U).mono ?_;rintro Z aw ⟨aI,a2,aL,a5,rfl,J⟩;have S:=ap (N.trans (J.1.mono N.size)))))
 have H:=ap (C.trans (S.mono C.size));clear ax ay az aB y0 y1 y2 aC O U N I X;cases R with
 | none=>
  obtain⟨rfl,rfl⟩:a2=0/\a5=false:=J.out.2.1 (by simp);clear J;go_wp2_with fail
  go_ret2
  exact⟨none,0,0,false,rfl,H,λ_=>rfl,λb aO=>by cases aO⟩
 | some b=>
  obtain⟨aU,aR,aa,a7,an,aX,V⟩:=J.out.2.2 b trivial rfl;subst aU aR;have aH:=ap (aE b an aI aL a7 aw H rfl aa V);have aG:=ap V.2.2.2.2.1;obtain⟨_,⟨ax,ay,az,aB⟩,_,y0,y1,y2,aC⟩:=D aw S;clear V J aa aX;go_wp2_with fail;refine aH.mono ?_;rintro Z bb ⟨aJ,a3,aM,a6,rfl,T⟩;go_wp2_with fail
  go_ret2
  refine⟨aJ,a3,aM,a6,rfl,H.trans (T.1.mono H.size),(λaN=>by cases aN),λa9 aP=>?_⟩;cases aP;refine⟨an,aG,λaT=>(T.2.1 (by simp[aT])).2,λaK aQ=>?_⟩;obtain⟨aY,aZ,a0,a8,a4,a1,kc⟩:=T.2.2 aK trivial aQ;exact⟨aY,aZ,a0,a8,a4,aF H.size a1,kc⟩
theorem MY{n:Nat}{p l:List (Tm n)}{w w':ag}{a:ar}{c:Nat}(i:il n p w w' a c l):fZ w'.heap.size w' n l a:=by
 obtain⟨_,_,_,_,_,k⟩:=i;rcases k with d|⟨b,o,d,_,j,e⟩
 ·exact aj d
 ·exact ak ⟨b,o,d,j,λg h f=>⟨(e g h f).1,(e g h f).2.1⟩⟩
theorem sg{y:An}(a:DA y):aJ y:=aU.2 (bM.1 a.1).1
theorem DD:∀y∈oC 1 (List.replicate 4 fH),DA y:=by
 intro y a;simp only[oC,cu,List.mem_replicate]at a;obtain⟨x,⟨_,rfl⟩,rfl⟩:=a;exact⟨zC,aj rfl⟩
theorem fD{n:Nat}{x:Tm n}(a:bJ n x=0):(aC n x).length<=2097152:=aF (oG a) (by omega)
theorem IF(n m k:Nat)(c:Cl (n+1))(s:Tm (m+1))(t:Tm (k+1))(B:Nat)(w:ag)(C:iE (n+1) B w c)(K:In B w (m+1) s)(L:In B w (k+1) t)(a:B<=w.heap.size)(u:bJ (n+1) c.1.1=0)(v:bJ (n+1) c.1.2.1=0)(p:bJ (m+1) s=0)(x:kE (m+1) s=true)(y:bJ (k+1) t=0)(H:kE (k+1) t=true):ao 115 #[.agg (fy (n+1) c).toArray,dG (m+1) s,dG (k+1) t] w (JG (iG (n+1) c.1.1 (m+1) s (oC 1 (List.replicate 4 fH))) (iG (n+1) c.1.2.1 (k+1) t) w):=by
 refine EE c.1.1.1.1 c.1.1.1.2.1 c.1.2.1.1.1 c.1.2.1.1.2.1 c.1.2.2.1.1 c.1.2.2.1.2.1 s.1.1 s.1.2.1 t.1.1 t.1.2.1 c.1.1.1.2.2 c.1.2.1.1.2.2 c.1.2.2.1.2.2 s.1.2.2 t.1.2.2 c.1.1.2.1.1 c.1.2.1.2.1.1 c.1.2.2.2.1.1 s.2.1.1 t.2.1.1 c.2.1.1
  c.1.1.2.2.length c.1.1.2.1.2 c.1.2.1.2.2.length c.1.2.1.2.1.2 c.1.2.2.2.2.length c.1.2.2.2.1.2 s.2.2.length s.2.1.2 t.2.2.length t.2.1.2 c.2.2.length c.2.1.2 _ _ w ?_ ?_
 ·intro r d z i;have h:=z.trans (i.1.mono z.size)
  have e:=yj (n+1) (m+1) 1 c.1.1 s (List.replicate 4 fH) (some ⟨r.heap.size,0,none⟩) 4 d.heap.size d ((C.1.1.below (h.mono a)).mono (aF a h.size)) ((K.below (h.mono a)).mono (aF a h.size)) (MY i) (av _) (fD u) (fD p) (λj f=>by
   rw[(List.mem_replicate.1 f).2]
   exact fD zC) (by simp)
  have o:ui (bJ (n+1) c.1.1) (bJ (m+1) s) (kE (m+1) s) (gJ 1 (List.replicate 4 fH))=0:=by
   rw[u,p,x,JX];rfl
  rw[o]at e;exact e
 ·intro b l E F r d g J G i;have q:=lK DA oQ (n+1) c.1.1 (m+1) s ⟨p,ak (by rw[fR];exact x)⟩ (oC 1 (List.replicate 4 fH)) b ⟨by simp[oC],DD⟩ J;obtain⟨I,D,M,N⟩:=FQ i (λj f=>sg (q.2 j f)) G;have A:=yU q.2 D q.1 M;have e:=yj (n+1) (k+1) (nJ b) c.1.2.1 t l E F d.heap.size d ((C.1.2.1.below (g.mono a)).mono (aF a g.size)) ((L.below (g.mono a)).mono (aF a g.size)) I (av _) (fD v) (fD y) (λj f=>fD ((iJ A).2 j f).1) (by omega);have o:ui (bJ (n+1) c.1.2.1) (bJ (k+1) t) (kE (k+1) t) (gJ (nJ b) l)=0:=by
   rw[v,y,H,A];rfl
  rw[o,D]at e;exact e
end Go.Proofs.YtmmahddlcldmiaaGreat
