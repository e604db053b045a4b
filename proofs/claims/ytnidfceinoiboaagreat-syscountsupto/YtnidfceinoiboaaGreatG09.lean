/- What is proved here: plain facts and contracts that the claimed theorem stands on. No condition but those that each names. -/
import Derived.Test.YtnidfceinoiboaaGreatG08
namespace Go.Proofs.YtnidfceinoiboaaGreat
open Go.RowKit
set_option maxRecDepth 100000
set_option maxHeartbeats 1000000
def ni:ByteArray:=⟨#[115,101,108,102]⟩
def qU:ByteArray:=⟨#[97,100,100]⟩
def qV:ByteArray:=⟨#[112,117,116]⟩
def om(N:Nat)(x:Tm N):Int:=(iv N x).1.2.1
def rs(n:Nat)(p:List (Tm n))(s:ByteArray)(k:Nat):Bool:=
 decide (p.length=1+k) && match p[0]? with
  | some a=>bE ⟨n,a⟩==2 && (iv n a).1.2.2.toList==s.toList
  | none=>false
def cF{c d:Type}(f:c->Option d):List c->Option (List d)
 | []=>some []
 | a::p=>(f a).bind λb=>(cF f p).map λl=>b::l
def aS(k u:Int)(N:Nat):Tm (N+1):=((k,u,.empty),(none,0),[])
def xt(N:Nat)(a c:Tm N):Bool:=bE ⟨N,a⟩==1 && bE ⟨N,c⟩==1 && kK (om N a+om N c) (-1099511627776) 1099511627776
def rU(N:Nat)(a c:Tm N):Option (Tm (N+1)):=if xt N a c then some (aS 1 (om N a+om N c) N)else none
def cM(N:Nat)(l:List (Tm N)):Tm (N+1):=((4,0,.empty),(none,0),l)
def vl(m:Nat)(b:List (Tm m))(self:Int):(n:Nat)->Tm n->Option (Tm (m+n))
 | 0,_=>none
 | n+1,x=>
  if x.1.1=5 then (b[x.1.2.1.toNat]?).bind λy=>if bE ⟨m,y⟩=6 then none else some (aI (m+n+1) m y)
  else if x.1.1=6 then none
  else if x.1.1=4 then
   if rs n x.2.2 ni 0 then some (aS 3 self (m+n))
   else if rs n x.2.2 qU 2 then
    (x.2.2[1]?).bind λa=>(x.2.2[2]?).bind λc=>(vl m b self n a).bind λa=>(vl m b self n c).bind λc=>rU (m+n) a c
   else if rs n x.2.2 qV 1 then
    (x.2.2[1]?).bind λa=>if aF n a then some (aI (m+n+1) n a)else none
   else (cF (λy=>vl m b self n y) x.2.2).map (cM (m+n))
  else some (aI (m+n+1) (n+1) x)
theorem pw{e g:Type}(f:e->Option g):(p:List e)->(l:List g)->cF f p=some l->l.length=p.length/\∀(i:Nat)(a:e)(y:g),p[i]?=some a->l[i]?=some y->f a=some y
 | [],l,b=>by simp[cF]at b;subst b;exact⟨rfl,λi a y c=>by simp at c⟩
 | a::p,l,b=>by
  simp only[cF]at b;obtain⟨y,n,b⟩:=bz.1 b;obtain⟨r,m,rfl⟩:=cD.1 b;obtain⟨j,k⟩:=pw f p r m;refine⟨by simp[j],λi h o c d=>?_⟩;cases i with
  | zero=>
   simp at c d;subst c d;exact n
  | succ i=>exact k i h o (by simpa using c) (by simpa using d)
theorem lg{c d:Type}(f:c->Option d):(p:List c)->(i:Nat)->(a:c)->p[i]?=some a->f a=none->cF f p=none
 | [],i,a,h,_=>by simp at h
 | b::p,0,a,h,k=>by
  simp at h;subst h;simp[cF,k]
 | b::p,i+1,a,h,k=>by
  simp only[cF];rw[lg f p i a (by simpa using h) k];simp
theorem uN{b c:Type}(f:b->Option c)(g:b->c):(p:List b)->(∀a∈p,f a=some (g a))->cF f p=some (p.map g)
 | [],_=>rfl
 | a::p,h=>by simp[cF,h a (by simp),uN f g p λx d=>h x (bR _ d)]
theorem wF{b c d:Type}(f:b->List d)(g:c->List d)(K:Nat):(p:List b)->(l:List c)->l.length=p.length->(∀(i:Nat)(a:b)(y:c),p[i]?=some a->l[i]?=some y->(g y).length<=K*(f a).length)->(l.flatMap g).length<=K*(p.flatMap f).length
 | [],[],_,_=>by simp
 | [],_::_,h,_=>by simp at h
 | _::_,[],h,_=>by simp at h
 | a::p,y::l,h,k=>by
  have m:=k 0 a y rfl rfl;have n:=wF f g K p l (by simpa using h) λi a y e j=>k (i+1) a y (by simpa using e) (by simpa using j);simp only[bj,aX];rw[Nat.mul_add];omega
theorem nF:(N n:Nat)->n<=N->(x:Tm n)->(aq N (aI N n x)).length<=(aq n x).length
 | 0,0,_,_=>ag _
 | _+1,0,_,_=>by simp[aI,aq]
 | 0,n+1,h,_=>by omega
 | N+1,n+1,h,x=>by
  have:=wF (λy=>aq n y) (λy=>aq N y) 1 x.2.2 (x.2.2.map λy=>aI N n y) (by simp) λi a y c b=>by
   simp[c]at b;subst b;rw[Nat.one_mul];exact nF N n (by omega) a
  simp only[aq,aI,aW];omega
theorem tr{a K:Nat}(b:1<=K):a<=K*a:=Nat.le_mul_of_pos_left a b
theorem yV{d e:Type}(f:d->List e)(p:List d)(a:d)(c:a∈p):(f a).length<=(p.flatMap f).length:=by
 induction p with
 | nil=>cases c
 | cons b p ih=>
  simp only[bj,aX];rcases br.1 c with rfl|c
  ·omega
  ·have:=ih c;omega
theorem Ai(m:Nat)(b:List (Tm m))(self:Int)(K:Nat)(f:1<=K)(p:∀y∈b,(aq m y).length<=K):(n:Nat)->(x:Tm n)->(z:Tm (m+n))->vl m b self n x=some z->(aq (m+n) z).length<=K*(aq n x).length
 | 0,_,_,d=>by simp[vl]at d
 | n+1,x,z,d=>by
  have one:∀k u,(aq (m+n+1) (aS k u (m+n))).length<=K*(aq (n+1) x).length:=λk u=>by
   have:1*1<=K*(aq (n+1) x).length:=Nat.mul_le_mul f (by simp[aq]);simpa [aq,aS]using this
  have up:∀(y:Tm n),y∈x.2.2->K*(aq n y).length<=K*(aq (n+1) x).length:=λy j=>by
   have:=yV (λy=>aq n y) x.2.2 y j;exact Nat.mul_le_mul_left K (by simp only[aq,aW]at this ⊢;omega)
  simp only[vl]at d;split at d
  ·obtain⟨y,j,d⟩:=bz.1 d;split at d
   ·cases d
   ·obtain rfl:=ap d;have e:=nF (m+n+1) m (by omega) y;have g:=p y (ay j);have h:K*1<=K*(aq (n+1) x).length:=Nat.mul_le_mul_left K (by simp[aq]);show (aq (m+n+1) _).length<=_;omega
  ·split at d
   ·cases d
   ·split at d
    ·split at d
     ·obtain rfl:=ap d;exact one _ _
     ·split at d
      ·obtain⟨a,o,d⟩:=bz.1 d;obtain⟨c,A,d⟩:=bz.1 d;obtain⟨t,w,d⟩:=bz.1 d;obtain⟨v,B,d⟩:=bz.1 d;unfold rU at d;split at d
       ·obtain rfl:=ap d;exact one _ _
       ·cases d
      ·split at d
       ·obtain⟨a,o,d⟩:=bz.1 d;split at d
        ·obtain rfl:=ap d;have e:=nF (m+n+1) n (by omega) a;have g:=up a (ay o);have h:=tr (a:=(aq n a).length) f;show (aq (m+n+1) _).length<=_;omega
        ·cases d
       ·obtain⟨l,s,rfl⟩:=cD.1 d;obtain⟨e,g⟩:=pw _ _ _ s;have h:=wF (λy=>aq n y) (λy=>aq (m+n) y) K x.2.2 l e λi a y q r=>Ai m b self K f p n a y (g i a y q r);show (aq (m+n+1) (cM (m+n) l)).length<=_;simp only[aq,cM,aW];rw[Nat.mul_add];omega
    ·obtain rfl:=ap d;have e:=nF (m+n+1) (n+1) (by omega) x;have h:=tr (a:=(aq (n+1) x).length) f;show (aq (m+n+1) _).length<=_;omega
theorem jI:(n:Nat)->(x:Tm n)->(m:Nat)->(y:Tm m)->aw n x m y=true->(aq n x).length=(aq m y).length
 | 0,_,_,_,h=>by simp[aw]at h
 | _+1,_,0,_,h=>by simp[aw]at h
 | n+1,x,m+1,y,h=>by
  obtain⟨f,e⟩:=bq h;have key:∀(p:List (Tm n))(q:List (Tm m)),av (λa b=>aw n a m b) p q=true->(p.flatMap λy=>aq n y).length=(q.flatMap λy=>aq m y).length:=by
   intro p
   induction p with
   | nil=>intro q d;cases q with
    | nil=>rfl
    | cons _ _=>simp[av]at d
   | cons a p ih=>intro q d;cases q with
    | nil=>simp[av]at d
    | cons c q=>
     simp only[av,az]at d;simp only[bj,aX];rw[jI n a m c d.1,ih q d.2]
  simp only[aq,aW];rw[key _ _ e]
theorem bv{n:Nat}{x:Tm n}:bA n x=0 ↔ bO n x=true/\eW n x<=12/\sz n x<=200:=by
 rw[<-iK];unfold xu;constructor
 ·intro a;split at a
  ·rename_i c;split at a
   ·cases a
   ·rename_i f;exact⟨c,by omega,by omega⟩
  ·cases a
 ·rintro ⟨b,d,e⟩;rw[if_pos b,if_neg (by omega)]
theorem CF:(n:Nat)->(x:Tm n)->aB ⟨n,x⟩->((aq n x).length:Int)<=sz n x+1
 | 0,_,h=>(cX h).elim
 | n+1,x,h=>by
  have c:=eh (bm n x) (h (bm n x) (by simp[aq,bm]));by_cases a:x.1.1=4
  ·have key:∀l:List (Tm n),(∀y∈l,aB ⟨n,y⟩)->((l.flatMap λy=>aq n y).length:Int)<=(l.map λy=>1+sz n y).sum:=by
     intro l
     induction l with
     | nil=>intro _;simp
     | cons y l ih=>
      intro b;have g:=CF n y (b y (by simp));have i:=ih λf e=>b f (bR _ e);simp only[bj,aX,aH,bt];omega
   have:=key x.2.2 λy d=>aU n x y h d;simp only[aq,aW,sz,if_pos a];omega
  ·have:x.2.2=[]:=bK (c.2.2.2.2 a);simp[aq,this,sz,a]
theorem mI{n:Nat}{x:Tm n}(a:bA n x=0):(aq n x).length<=201:=by
 obtain⟨b,_,c⟩:=bv.1 a;have:=CF n x (aJ.2 b);omega
theorem gu{m:Nat}{b:List (Tm m)}(a:fG m b=true):b.length=4/\∀y∈b,bA m y=0/\aB ⟨m,y⟩/\(bE ⟨m,y⟩=6\/aF m y=true):=by
 unfold fG at a;simp only[az,bN,bS]at a;refine⟨a.1,λy c=>?_⟩;have:=a.2 y c;unfold zm at this;simp only[az,gI,ci]at this;refine⟨this.1,aJ.2 (bv.1 this.1).1,?_⟩;rw[eT];exact this.2
theorem oP{N n:Nat}(e:n<=N)(x:Tm n)(c:aB ⟨n,x⟩):aB ⟨N,aI N n x⟩:=by
 cases n with
 | zero=>exact(cX c).elim
 | succ n=>
  obtain⟨a,rfl⟩:∃a,N=a+1:=⟨N-1,by omega⟩;intro d b;simp only at b;rw[l7 a n (by omega) x]at b;exact c d b
theorem tR{N:Nat}{x:Tm (N+1)}(c:bT (bm N x)=true)(k:∀y∈x.2.2,aB ⟨N,y⟩):aB ⟨N+1,x⟩:=by
 intro b a;simp only[aq,br,iU]at a;rcases a with rfl|⟨y,d,a⟩
 ·exact c
 ·exact k y d b a
theorem ui(m:Nat)(b:List (Tm m))(self:Int)(j:1<=self/\self<=99)(h:∀y∈b,aB ⟨m,y⟩):(n:Nat)->(x:Tm n)->aB ⟨n,x⟩->(z:Tm (m+n))->vl m b self n x=some z->aB ⟨m+n,z⟩
 | 0,_,_,_,d=>by simp[vl]at d
 | n+1,x,hr,z,d=>by
  have q:=hr (bm n x) (by simp[aq,bm]);have B:x.2.2.length<=8:=lp (bm n x) q;simp only[vl]at d;split at d
  ·obtain⟨y,e,d⟩:=bz.1 d;split at d
   ·cases d
   ·obtain rfl:=ap d;exact oP (N:=m+n+1) (by omega) y (h y (ay e))
  ·split at d
   ·cases d
   ·split at d
    ·split at d
     ·obtain rfl:=ap d;exact tR (N:=m+n) (by simp[bT,aS,bm,kK,j]) (by intro y e;cases e)
     ·split at d
      ·obtain⟨a,g,d⟩:=bz.1 d;obtain⟨c,w,d⟩:=bz.1 d;obtain⟨t,v,d⟩:=bz.1 d;obtain⟨u,A,d⟩:=bz.1 d;unfold rU at d;split at d
       ·rename_i k;obtain rfl:=ap d;simp only[xt,az]at k;exact tR (N:=m+n) (by simp[bT,aS,bm,k.2]) (by intro y e;cases e)
       ·cases d
      ·split at d
       ·obtain⟨a,g,d⟩:=bz.1 d;split at d
        ·obtain rfl:=ap d;exact oP (N:=m+n+1) (by omega) a (aU n x a hr (ay g))
        ·cases d
       ·obtain⟨l,s,rfl⟩:=cD.1 d;obtain⟨o,p⟩:=pw _ _ _ s;refine tR (N:=m+n) ?_ λy e=>?_
        ·have:(l.length:Int)<=8:=by omega
         simp[bT,cM,bm,this]
        ·obtain⟨f,i⟩:=cB e;have r:f<x.2.2.length:=by rw[<-o];exact(aK.1 i).1
         exact ui m b self j h n x.2.2[f] (aU n x _ hr (iS _)) y (p f _ y (aA r) i)
    ·obtain rfl:=ap d;exact oP (N:=m+n+1) (by omega) x hr
def CP(a:Int)(bd:Bool)(self:Int):Int:=if a=0 then if bd then if 1<=self/\self<=99 then 0 else 1 else 5 else a
def mF{N:Nat}(E:Int)(o:Option (Tm N)):Option (Tm N):=if E=0 then o.bind λz=>if bA N z=0 then some z else none else none
def CO{N:Nat}(E:Int)(o:Option (Tm N)):Int:=if E=0 then if o.isSome then 0 else 7 else E
theorem CA{n:Nat}{p:List (Tm n)}{s:ByteArray}{k:Nat}(a:p.length≠1+k):rs n p s k=false:=by simp[rs,a]
theorem Kr{n:Nat}{p:List (Tm (n+1))}{s:ByteArray}{k:Nat}{y:Tm (n+1)}(a:p.length=1+k)(b:p[0]?=some y):rs (n+1) p s k=(y.1.1==2 && y.1.2.2.toList==s.toList):=by
 simp[rs,a,b,bE,iv,bm]
theorem DE(a:Option Addr)(len pc:Nat)(s:ByteArray)(k:Nat)(w:World)(f:k<=8)(c:len≠1+k):Calls Tryz.prog 167 #[.slice a len pc,.string s,.int .i64 k] w λe w'=>e=.returned (.bool false)/\w'=w:=by
 have d:((len:Int)==1+(k:Int))=false:=by simp;omega
 have b:IntKind.i64.wrap (1+(k:Int))=1+(k:Int):=by rw[IntKind.wrap];simp[IntKind.bits,IntKind.signed];omega
 go_enter Tryz.func167,Tryz.ntmps167;go_wp2_with fail
 go_ret
 exact⟨rfl,rfl⟩
theorem DD(a po len pc:Nat)(s:ByteArray)(k:Nat)(b:Int)(c:ByteArray)(w:World)(l:len<=8)(j:k<=8)(g:len=1+k)(c0:w.cell? ⟨a,po,none⟩=some (.int .i64 b))(d:w.cell? ⟨a,po+2,none⟩=some (.string c)):Calls Tryz.prog 167 #[.slice (some ⟨a,po,none⟩) len pc,.string s,.int .i64 k] w λe w'=>e=.returned (.bool (b==2 && c.toList==s.toList))/\w'=w:=by
 have h:((len:Int)==1+(k:Int))=true:=by simp;omega
 have f:IntKind.i64.wrap (1+(k:Int))=1+(k:Int):=by rw[IntKind.wrap];simp[IntKind.bits,IntKind.signed];omega
 have i:(0:Int)<(len:Int):=by omega
 cases hx:b==2
 ·go_enter Tryz.func167,Tryz.ntmps167;go_wp2_with fail
  go_ret
  exact⟨rfl,rfl⟩
 ·go_enter Tryz.func167,Tryz.ntmps167;go_wp2_with fail
  go_ret
  exact⟨rfl,rfl⟩
theorem A2(n:Nat)(p:List (Tm n))(a:Option Addr)(pc B:Nat)(s:ByteArray)(k:Nat)(w:World)(d:eY B w n p a)(m:p.length<=8)(h:k<=8):Calls Tryz.prog 167 #[.slice a p.length pc,.string s,.int .i64 k] w λe w'=>e=.returned (.bool (rs n p s k))/\w'=w:=by
 by_cases c:p.length=1+k
 ·rcases d with d|⟨b,o,rfl,u,d⟩
  ·rw[d]at c;simp at c;omega
  ·obtain⟨f,i⟩:∃f,p[0]?=some f:=⟨p[0]'(by omega),aA _⟩;obtain⟨g,t⟩:=d 0 f i;cases n with
   | zero=>exact g.elim
   | succ n=>
    rw[Kr c i];obtain⟨j,q,l,r⟩:=g;exact DD b o p.length pc s k f.1.1 f.1.2.2 w m h c (by simpa using j) (by simpa using l)
 ·rw[CA c];exact DE a p.length pc s k w h c
def jr(N:Nat)(o:Option (Tm N))(w:World)(e:Ending)(w':World):Prop:=
 ∃(a:Tm N)(b:Bool),e=.returned (.tuple #[dg N a,.bool b])/\Hid (Below w.heap.size w w'/\In w'.heap.size w' N a/\ch (λd=>w.heap.size<=d) N a/\b=o.isSome/\∀c,o=some c->aw N a N c=true)
def J6(m:Nat)(b:List (Tm m))(self:Int)(n:Nat):Prop:=∀(x:Tm n)(a:Option Addr)(c B:Nat)(w:World),In B w n x->aB ⟨n,x⟩->eY B w m b a->B<=w.heap.size->
 Calls Tryz.prog 150 #[.agg #[.slice a 4 c,.int .i64 self],dg n x] w (jr (m+n) (vl m b self n x) w)
def J8{N:Nat}(o:Option (Tm N))(w:World)(e:Ending)(w':World):Prop:=
 ∃(c:Int)(b:Bool),e=.returned (.tuple #[.int .i64 c,.bool b])/\Hid (Below w.heap.size w w'/\b=(o.isSome && o.all λa=>bE ⟨N,a⟩==1)/\∀a,o=some a->c=om N a)
theorem Bg{N:Nat}{o:Option (Tm (N+1))}{w w1 w2:World}{y:Tm (N+1)}{r:Bool}(e:Below w.heap.size w w2)(c:Below w1.heap.size w1 w2/\In w2.heap.size w2 (N+1) y/\ch (λq=>w1.heap.size<=q) (N+1) y/\r=o.isSome/\∀z,o=some z->aw (N+1) y (N+1) z=true)(b:Bool)(f:b=(r && y.1.1==1)):Below w.heap.size w w2/\b=(o.isSome && o.all λz=>bE ⟨N+1,z⟩==1)/\∀z,o=some z->y.1.2.1=om (N+1) z:=by
 obtain⟨_,_,_,d,a⟩:=c;refine⟨e,?_,λz g=>?_⟩
 ·rw[f,d];cases ho:o with
  | none=>rfl
  | some z=>
   have:=(bq (a z ho)).1;simp[bE,this]
 ·have:=(bq (a z g)).1;simp[om,iv,bm,this]
theorem EK{w w':World}{a b:Obj}(d:Below ((w.alloc a).alloc b).heap.size ((w.alloc a).alloc b) w'):Below w.heap.size w w':=by
 have c:Below w.heap.size w ((w.alloc a).alloc b):=((ah _ _).alloc (ag _) _).alloc (by simp) _;exact c.trans (d.mono c.size)
theorem rD(N:Nat)(o:Option (Tm (N+1)))(a:Option Addr)(c:Nat)(self:Int)(k l:Int)(m:ByteArray)(xa:Option Addr)(n xc:Nat)(w:World)(i:Hid (∀w1,Below w.heap.size w w1->Calls Tryz.prog 150 #[.agg #[.slice a 4 c,.int .i64 self],.agg #[.int .i64 k,.int .i64 l,.string m,.slice xa n xc]] w1 (jr (N+1) o w1))):Calls Tryz.prog 172 #[.agg #[.slice a 4 c,.int .i64 self],.agg #[.int .i64 k,.int .i64 l,.string m,.slice xa n xc]] w (J8 o w):=by
 go_enter Tryz.func172,Tryz.ntmps172;go_wp2_with fail;refine(i.out _ (((ah _ _).alloc (ag _) _).alloc (by simp) _)).mono ?_;rintro s f ⟨d,q,rfl,e⟩;have HB:Hid (Below w.heap.size w f):=EK e.out.1;have j:dg (N+1) d=.agg #[.int .i64 d.1.1,.int .i64 d.1.2.1,.string d.1.2.2,.slice d.2.1.1 d.2.2.length d.2.1.2]:=rfl;rw[j];clear j i;have h:=λr p=>ai (Bg HB.out e.out r p);clear HB e;have g:Hid (∀o:Obj,Below w.heap.size w f->Below w.heap.size w (f.alloc o).drew):=λo b=>(b.alloc b.size o).drew;cases q
 ·go_wp2_with fail;go_region;go_wp2_with fail
  go_ret2
  have b:=(h false rfl).out;exact⟨_,_,rfl,g.out _ b.1,b.2⟩
 ·go_wp2_with fail;go_region;go_wp2_with fail
  go_ret2
  have b:=(h _ rfl).out;exact⟨_,_,rfl,g.out _ b.1,b.2⟩
def Le{N:Nat}(o:Option (Tm N)):Prop:=∀z,o=some z->bE ⟨N,z⟩=1-> -1099511627776<=om N z/\om N z<=1099511627776
def uF{N:Nat}(b d:Option (Tm N)):Option (Tm (N+1)):=b.bind λa=>d.bind λc=>rU N a c
theorem Jo{N:Nat}{a d:Option (Tm N)}(b:(a.isSome && a.all λz=>bE ⟨N,z⟩==1)=false):uF a d=none:=by
 cases a with
 | none=>rfl
 | some e=>
  simp at b;cases d with
  | none=>rfl
  | some c=>simp[uF,rU,xt,b]
theorem GS{N:Nat}{d a:Option (Tm N)}(b:(a.isSome && a.all λz=>bE ⟨N,z⟩==1)=false):uF d a=none:=by
 cases d with
 | none=>rfl
 | some e=>
  cases a with
  | none=>rfl
  | some c=>
   simp at b;simp[uF,rU,xt,b]
theorem GU{N:Nat}{a b:Option (Tm N)}{u v:Int}(g:true=(a.isSome && a.all λz=>bE ⟨N,z⟩==1))(h:true=(b.isSome && b.all λz=>bE ⟨N,z⟩==1))(i:∀z,a=some z->u=om N z)(j:∀z,b=some z->v=om N z)(k:Le a)(l:Le b):uF a b=(if -1099511627776<=u+v/\u+v<=1099511627776 then some (aS 1 (u+v) N)else none)/\(-1099511627776<=u/\u<=1099511627776)/\(-1099511627776<=v/\v<=1099511627776):=by
 cases a with
 | none=>simp at g
 | some d=>
  cases b with
  | none=>simp at h
  | some c=>
   have e:bE ⟨N,d⟩=1:=by simpa using g.symm
   have f:bE ⟨N,c⟩=1:=by simpa using h.symm
   rw[i d rfl,j c rfl];refine⟨?_,k d rfl e,l c rfl f⟩;simp[uF,rU,xt,e,f,kK]
theorem iC:dc 0:=by simp[dc]
theorem ko(N:Nat)(k u:Int)(a:dc k)(b:dc u)(B:Nat)(w:World)(P:Nat->Prop):In B w (N+1) (aS k u N)/\ch P (N+1) (aS k u N):=
 ⟨⟨⟨a,b,aD _,aD _,aD _⟩,ae rfl⟩,ae rfl⟩
theorem vb(N:Nat)(k u:Int):aw (N+1) (aS k u N) (N+1) (aS k u N)=true:=bX rfl rfl
theorem jK{N:Nat}{w w':World}(a:Below w.heap.size w w'):jr (N+1) none w (.returned (.tuple #[.agg #[.int .i64 0,.int .i64 0,.string .empty,.slice none 0 0],.bool false])) w':=
 ⟨aS 0 0 N,false,rfl,a,(ko N 0 0 iC iC _ _ (λ_=>True)).1,(ko N 0 0 iC iC 0 w _).2,rfl,λc b=>by cases b⟩
theorem vL{N:Nat}{w w':World}(c:Below w.heap.size w w')(k u:Int)(a:dc k)(b:dc u):jr (N+1) (some (aS k u N)) w (.returned (.tuple #[.agg #[.int .i64 k,.int .i64 u,.string .empty,.slice none 0 0],.bool true])) w':=
 ⟨aS k u N,true,rfl,c,(ko N k u a b _ _ (λ_=>True)).1,(ko N k u a b 0 w _).2,rfl,λe d=>by obtain rfl:=ap d;exact vb N k u⟩
theorem lY(w:World)(a b c d:Obj):Below w.heap.size w ((((w.alloc a).alloc b).alloc c).alloc d):=((((ah _ _).alloc (ag _) _).alloc (by simp) _).alloc (by simp;omega) _).alloc (by simp;omega) _
def mC(q:Nat)(w:World):Prop:=(w.cell? ⟨q,0,none⟩=some (.int .i64 0)/\w.cell? ⟨q,1,none⟩=some (.int .i64 0)/\w.cell? ⟨q,2,none⟩=some (.string .empty)/\w.cell? ⟨q,3,none⟩=some (.slice none 0 0))/\(w.frozen? ⟨q,0,none⟩=false/\w.frozen? ⟨q,1,none⟩=false/\w.frozen? ⟨q,2,none⟩=false/\w.frozen? ⟨q,3,none⟩=false)/\q<w.heap.size
theorem mC.below{q:Nat}{w w':World}(i:mC q w)(c:Below w.heap.size w w'):mC q w':=by
 obtain⟨⟨j,k,l,m⟩,⟨e,f,g,h⟩,d⟩:=i;have a:=λo=>c.cell (p:=⟨q,o,none⟩) d;have b:=λo=>c.frozen (p:=⟨q,o,none⟩) d;exact⟨⟨(a 0).trans j,(a 1).trans k,(a 2).trans l,(a 3).trans m⟩,⟨(b 0).trans e,(b 1).trans f,(b 2).trans g,(b 3).trans h⟩,aL d c.size⟩
theorem AT{w w':World}{s0 s1 h i j k y0 y1 y2 e:Value}{t1 t2 g t4:TypeId}(a:Below ((((w.alloc (.cells #[s0,s1] t1)).alloc (.cells #[h,i,j,k] t2)).alloc (.cells #[y0,y1,y2,e] g)).alloc (.cells #[.int .i64 0,.int .i64 0,.string .empty,.slice none 0 0] t4)).heap.size ((((w.alloc (.cells #[s0,s1] t1)).alloc (.cells #[h,i,j,k] t2)).alloc (.cells #[y0,y1,y2,e] g)).alloc (.cells #[.int .i64 0,.int .i64 0,.string .empty,.slice none 0 0] t4)) w'):(w'.cell? ⟨w.heap.size,0,none⟩=some s0/\w'.cell? ⟨w.heap.size,1,none⟩=some s1)/\ (w'.cell? ⟨w.heap.size+1+1,0,none⟩=some y0/\w'.cell? ⟨w.heap.size+1+1,1,none⟩=some y1/\w'.cell? ⟨w.heap.size+1+1,2,none⟩=some y2/\w'.cell? ⟨w.heap.size+1+1,3,none⟩=some e)/\mC (w.heap.size+1+1+1) w':=by
 have l:=a.size;simp at l;have f:=λo=>a.cell (p:=⟨w.heap.size,o,none⟩) (by simp;omega);have b:=λo=>a.cell (p:=⟨w.heap.size+1+1,o,none⟩) (by simp;try omega);have d:=λo=>a.cell (p:=⟨w.heap.size+1+1+1,o,none⟩) (by simp);have c:=λo=>a.frozen (p:=⟨w.heap.size+1+1+1,o,none⟩) (by simp)
 exact⟨⟨(f 0).trans (by simp[go_sem]),(f 1).trans (by simp[go_sem])⟩,⟨(b 0).trans (by simp[go_sem]),(b 1).trans (by simp[go_sem]),(b 2).trans (by simp[go_sem]),(b 3).trans (by simp[go_sem])⟩,
  ⟨(d 0).trans (by simp[go_sem]),(d 1).trans (by simp[go_sem]),(d 2).trans (by simp[go_sem]),(d 3).trans (by simp[go_sem])⟩,⟨(c 0).trans (by simp[go_sem]),(c 1).trans (by simp[go_sem]),(c 2).trans (by simp[go_sem]),(c 3).trans (by simp[go_sem])⟩,by omega⟩
theorem cQ{w w':World}{q:Nat}(a:Below w.heap.size w w')(c:w.heap.size<=q)(v0 v1 v2 v3:Value):Below w.heap.size w (cP w' q 0 v0 v1 v2 v3):=
 ⟨a.os,a.tape,a.output,au a.size (dp (aZ _ _ _ _).symm),λk b=>(aO (by omega) _ _ _ _).trans (a.block k b)⟩
theorem GW(N:Nat)(p q:Option (Tm N))(B:Hid (Le p))(C:Hid (Le q))(a:Option Addr)(c:Nat)(self:Int)(D E:Int)(F:ByteArray)(xa:Option Addr)(G xc:Nat)(y0 y1:Int)(y2:ByteArray)(ya:Option Addr)(yl yc:Nat)(w:World)(u:Hid (∀w1,Below w.heap.size w w1->Calls Tryz.prog 172 #[.agg #[.slice a 4 c,.int .i64 self],.agg #[.int .i64 D,.int .i64 E,.string F,.slice xa G xc]] w1 (J8 p w1)))(x:Hid (∀w1,Below w.heap.size w w1->Calls Tryz.prog 172 #[.agg #[.slice a 4 c,.int .i64 self],.agg #[.int .i64 y0,.int .i64 y1,.string y2,.slice ya yl yc]] w1 (J8 q w1))):Calls Tryz.prog 168 #[.agg #[.slice a 4 c,.int .i64 self],.agg #[.int .i64 D,.int .i64 E,.string F,.slice xa G xc],.agg #[.int .i64 y0,.int .i64 y1,.string y2,.slice ya yl yc]] w (jr (N+1) (uF p q) w):=by
 obtain⟨o,t⟩:∃o,o=uF p q:=⟨_,rfl⟩;rw[<-t];have l:=ai t;clear t;go_enter Tryz.func168,Tryz.ntmps168;go_wp2_with fail;refine(u.out _ (lY _ _ _ _ _)).mono ?_;rintro O V ⟨b,j,rfl,d⟩;obtain⟨⟨T,U⟩,⟨K,d1,L,M⟩,A⟩:=AT d.out.1;have r:=ai A;have HB:Hid (Below w.heap.size w V):=(lY _ _ _ _ _).trans (d.out.1.mono (lY _ _ _ _ _).size);have m:Hid (j=_/\_):=d.out.2;clear u d A;cases j
 ·have e:Hid (o=none):=l.out.trans (Jo m.out.1.symm);obtain⟨⟨f,g,h,i⟩,⟨P,Q,R,S⟩,_⟩:=r.out;go_wp2_with fail;rw[e.out];exact ao (v:=.tuple #[.agg #[.int .i64 0,.int .i64 0,.string .empty,.slice none 0 0],.bool false]) (by simp[results,Tryz.results168,go_sem,f,g,h,i];rfl) rfl (jK (cQ HB.out (by omega) _ _ _ _))
 ·go_wp2_with fail;refine(x.out _ HB.out).mono ?_;rintro O W ⟨v,j,rfl,d⟩;have k:Hid (Below w.heap.size w W):=HB.out.trans (d.out.1.mono HB.out.size);have n:Hid (j=_/\_):=d.out.2;have H:=ai (r.out.below d.out.1);obtain⟨⟨f,g,h,i⟩,⟨P,Q,R,S⟩,_⟩:=H.out;clear x d HB T U K d1 L M r;cases j
  ·have e:Hid (o=none):=l.out.trans (GS n.out.1.symm);go_wp2_with fail;rw[e.out];exact ao (v:=.tuple #[.agg #[.int .i64 0,.int .i64 0,.string .empty,.slice none 0 0],.bool false]) (by simp[results,Tryz.results168,go_sem,f,g,h,i];rfl) rfl (jK (cQ k.out (by omega) _ _ _ _))
  ·obtain⟨es,⟨Y,Z⟩,aa,ab⟩:=GU m.out.1 n.out.1 m.out.2 n.out.2 B.out C.out;have s:Hid (o=if -1099511627776<=b+v/\b+v<=1099511627776 then some (aS 1 (b+v) N)else none):=l.out.trans es;have X:IntKind.i64.wrap (b+v)=b+v:=by rw[IntKind.wrap];simp[IntKind.bits,IntKind.signed];omega
   clear l m n es B C;by_cases y:b+v< -1099511627776
   ·have I:decide (b+v< -1099511627776)=true:=by simpa using y
    have e:Hid (o=none):=s.out.trans (if_neg (by omega));go_wp2_with fail;rw[e.out];exact ao (v:=.tuple #[.agg #[.int .i64 0,.int .i64 0,.string .empty,.slice none 0 0],.bool false]) (by simp[results,Tryz.results168,go_sem,f,g,h,i];rfl) rfl (jK (cQ k.out (by omega) _ _ _ _))
   ·have I:decide (b+v< -1099511627776)=false:=by simpa using y
    by_cases z:1099511627776<b+v
    ·have J:decide (1099511627776<b+v)=true:=by simpa using z
     have e:Hid (o=none):=s.out.trans (if_neg (by omega));go_wp2_with fail;rw[e.out];exact ao (v:=.tuple #[.agg #[.int .i64 0,.int .i64 0,.string .empty,.slice none 0 0],.bool false]) (by simp[results,Tryz.results168,go_sem,f,g,h,i];rfl) rfl (jK (cQ k.out (by omega) _ _ _ _))
    ·have J:decide (1099511627776<b+v)=false:=by simpa using z
     have e:Hid (o=some (aS 1 (b+v) N)):=s.out.trans (if_pos (by omega));go_wp2_with fail;rw[e.out];exact ao (v:=.tuple #[.agg #[.int .i64 1,.int .i64 (b+v),.string .empty,.slice none 0 0],.bool true]) (by simp[results,Tryz.results168,go_sem,f,g,h,i];rfl) rfl (vL (cQ k.out (by omega) _ _ _ _) 1 (b+v) (by simp[dc]) ⟨by omega,by omega⟩)
def uh{n N:Nat}(f:Tm n->Option (Tm N))(p:List (Tm n)):List (Tm N):=p.map λy=>(f y).getD (aI N 0 ())
def JG{n N:Nat}(f:Tm n->Option (Tm N))(p:List (Tm n))(k:Nat):Prop:=∀(i:Nat)(y:Tm n),i<k->p[i]?=some y->(f y).isSome=true
theorem Hd{n N:Nat}{f:Tm n->Option (Tm N)}{p:List (Tm n)}{k:Nat}(c:JG f p k)(h:p.length<=k):cF f p=some (uh f p):=by
 refine uN f _ p λb e=>?_;obtain⟨g,a⟩:=cB e;have i:=(aK.1 a).1;have:=c g b (by omega) a;cases d:f b with
 | none=>rw[d]at this;cases this
 | some j=>rfl
theorem JG.next{n N:Nat}{f:Tm n->Option (Tm N)}{p:List (Tm n)}{k:Nat}{x:Tm n}(d:JG f p k)(g:p[k]?=some x)(e:true=(f x).isSome):JG f p (k+1):=by
 intro b h i a;by_cases c:b=k
 ·subst c;rw[g]at a;obtain rfl:=ap a;exact e.symm
 ·exact d b h (by omega) a
theorem Ju{n N:Nat}{f:Tm n->Option (Tm N)}{p:List (Tm n)}{k:Nat}{x:Tm n}(c:p[k]?=some x)(b:true=(f x).isSome):∃z,(uh f p)[k]?=some z/\f x=some z:=by
 cases a:f x with
 | none=>rw[a]at b;cases b
 | some z=>exact⟨z,by simp[uh,c,a],rfl⟩
theorem EI{N:Nat}{P:List (Tm N)}{w wr:World}{g len k:Nat}{l:List (Tm N)}(j:sx N P len g k l wr)(v:P.length=len)(p:k=len)(n:Below w.heap.size w wr)(x:len<=8)(q:Nat)(r:w.heap.size<=q)(y:q<g)(v0 v1 v2 v3:Value):jr (N+1) (some (cM N P)) w (.returned (.tuple #[.agg #[.int .i64 4,.int .i64 0,.string .empty,.slice (some ⟨g,0,none⟩) len len],.bool true])) (cP wr q 0 v0 v1 v2 v3):=by
 obtain⟨m,c,e,f⟩:=j;subst p;rw[bk (by omega)]at f;rw[iZ,lN,ee]at c;refine⟨((4,0,.empty),(some ⟨g,0,none⟩,k),l),true,?_,cQ n r _ _ _ _,?_,?_,rfl,λz t=>?_⟩
 ·simp only[dg,m]
 ·refine⟨⟨by simp[dc],by simp[dc],aD _,by simp only;omega,by unfold maxLen;simp only;omega⟩,af ⟨g,0,rfl,by rw[aZ];exact c.lt.2,λh b a=>?_⟩⟩;obtain⟨i,u⟩:=e b (ay a);have o:=c.cells h ⟨N,b⟩ (by simp[a]);refine⟨dr.block (aO (by omega) _ _ _ _) ?_,?_⟩
  ·cases N with
   | zero=>exact i.elim
   | succ N=>
    rw[cU];exact o
  ·rw[aZ];exact In.off (P:=λd=>g<d) (λd s=>aO (by omega) _ _ _ _) u i
 ·exact af ⟨g,0,rfl,by omega,λh b a=>(e b (ay a)).2.mono λd s=>by omega⟩
 ·obtain rfl:=ap t;exact bX rfl f
theorem He{n N:Nat}(f:Tm n->Option (Tm N))(p:List (Tm n)):(uh f p).length=p.length:=by simp[uh]
theorem sx.grow{N:Nat}{P:List (Tm N)}{len g k:Nat}{l:List (Tm N)}{w w':World}(e:sx N P len g k l w)(a:Below w.heap.size w w'):sx N P len g k l w':=by
 obtain⟨f,h,b,i⟩:=e;exact⟨f,h.below a,λd c=>⟨((b d c).1.below a).mono a.size,(b d c).2⟩,i⟩
theorem mC.block{q:Nat}{w w':World}(h:mC q w)(c:w'.heap[q]?=w.heap[q]?)(n:w.heap.size<=w'.heap.size):mC q w':=by
 obtain⟨⟨i,j,k,l⟩,⟨d,e,f,g⟩,m⟩:=h;have a:=λo=>bi c o;have b:∀o,w'.frozen? ⟨q,o,none⟩=w.frozen? ⟨q,o,none⟩:=λo=>by simp[World.frozen?,c]
 exact⟨⟨(a 0).trans i,(a 1).trans j,(a 2).trans k,(a 3).trans l⟩,⟨(b 0).trans d,(b 1).trans e,(b 2).trans f,(b 3).trans g⟩,aL m n⟩
theorem te{w w':World}(a:w.grownBy w' none):Below w.heap.size w w':=⟨a.os,a.tape,a.output,a.size,λk b=>a.block k b (by simp)⟩
theorem vX{w w':World}{s0 s1:Value}{t1 t2:TypeId}(f:((w.alloc (.cells #[s0,s1] t1)).alloc (.cells #[.int .i64 0,.int .i64 0,.string .empty,.slice none 0 0] t2)).grownBy w' none):Below w.heap.size w w'/\(w'.cell? ⟨w.heap.size,0,none⟩=some s0/\w'.cell? ⟨w.heap.size,1,none⟩=some s1)/\mC (w.heap.size+1) w':=by
 have a:=te f;have g:=a.size;simp at g;have d:Below w.heap.size w ((w.alloc (.cells #[s0,s1] t1)).alloc (.cells #[.int .i64 0,.int .i64 0,.string .empty,.slice none 0 0] t2)):=((ah _ _).alloc (ag _) _).alloc (by simp) _;have e:=λo=>a.cell (p:=⟨w.heap.size,o,none⟩) (by simp;omega);have c:=λo=>a.cell (p:=⟨w.heap.size+1,o,none⟩) (by simp);have b:=λo=>a.frozen (p:=⟨w.heap.size+1,o,none⟩) (by simp)
 exact⟨d.trans (a.mono d.size),⟨(e 0).trans (by simp[go_sem]),(e 1).trans (by simp[go_sem])⟩,
  ⟨(c 0).trans (by simp[go_sem]),(c 1).trans (by simp[go_sem]),(c 2).trans (by simp[go_sem]),(c 3).trans (by simp[go_sem])⟩,⟨(b 0).trans (by simp[go_sem]),(b 1).trans (by simp[go_sem]),(b 2).trans (by simp[go_sem]),(b 3).trans (by simp[go_sem])⟩,by omega⟩
theorem Ae(m:Nat)(b:List (Tm m))(self:Int)(n:Nat)(ih:Hid (J6 m b self n))(p:List (Tm n))(len:Nat)(W:Hid (p.length=len))(pa:Option Addr)(pc:Nat)(a:Option Addr)(c B:Nat)(w:World)(aY:len<=8)(V:Hid (eY B w n p pa))(a1:Hid (∀y∈p,aB ⟨n,y⟩))(aw:Hid (eY B w m b a))(H:B<=w.heap.size):Calls Tryz.prog 169 #[.agg #[.slice a 4 c,.int .i64 self],.slice pa len pc] w (jr (m+n+1) ((cF (λy=>vl m b self n y) p).map (cM (m+n))) w):=by
 obtain⟨o,T⟩:∃o,o=(cF (λy=>vl m b self n y) p).map (cM (m+n)):=⟨_,rfl⟩;rw[<-T];have ap:=ai T;clear T;obtain⟨a3,aC,aH,aI,aJ⟩:=bM gA;go_enter Tryz.func169,Tryz.ntmps169;go_wp2_with (at_make;refine jZ _ rfl _ _ 28 rfl _ 30 a3 _ 4 Tryz.underlying28 aC aH aI _ _ _ _ len rfl rfl rfl rfl (by rw[aJ];omega) (by unfold maxLen;omega) (ag _) ?_;intro h aE S;have t:=ai (pD (m+n) (uh (λy=>vl m b self n y) p) len aE);have aP:=ai (te S);have ar:=ai (vX S);clear aE S aC aH aI aJ);have es:((w.alloc (.cells #[.slice a 4 c,.int .i64 self] 231)).alloc (.cells #[.int .i64 0,.int .i64 0,.string ⟨#[]⟩,.slice none 0 0] 30)).heap.size=w.heap.size+1+1:=by simp
 rw[es]at t;clear es aP;obtain⟨ax,az,D⟩:=ar.out
 have am:Hid (Below w.heap.size w h/\(h.cell? ⟨w.heap.size,0,none⟩=some (.slice a 4 c)/\h.cell? ⟨w.heap.size,1,none⟩=some (.int .i64 self))/\mC (w.heap.size+1) h/\JG (λy=>vl m b self n y) p 0/\∃l,sx (m+n) (uh (λy=>vl m b self n y) p) len (w.heap.size+1+1) 0 l h):=
  ⟨ax,az,D,λs y bl _=>by omega,[],t.out⟩
 clear ar t ax az D;go_wp2_with fail;go_loopw [16] (λs wr=>∃k:Nat,k<=len/\s=.int .i64 k/\Hid (Below w.heap.size w wr/\(wr.cell? ⟨w.heap.size,0,none⟩=some (.slice a 4 c)/\wr.cell? ⟨w.heap.size,1,none⟩=some (.int .i64 self))/\mC (w.heap.size+1) wr/\JG (λy=>vl m b self n y) p k/\∃l,sx (m+n) (uh (λy=>vl m b self n y) p) len (w.heap.size+1+1) k l wr)) (λs _=>len-(intOf s).toNat)
 case atStart=>exact⟨0,by omega,rfl,am.out⟩
 case round=>
  obtain⟨k,bm,rfl,aq⟩:=hrel;clear am;obtain⟨i,⟨Z,aa⟩,G,x,l,j⟩:Hid (Below w.heap.size w wr)/\(wr.cell? ⟨w.heap.size,0,none⟩=some (.slice a 4 c)/\wr.cell? ⟨w.heap.size,1,none⟩=some (.int .i64 self))/\Hid (mC (w.heap.size+1) wr)/\Hid (JG (λy=>vl m b self n y) p k)/\∃l,Hid (sx (m+n) (uh (λy=>vl m b self n y) p) len (w.heap.size+1+1) k l wr):=aq.out;clear aq;by_cases aD:k<len
  ·obtain⟨d,u⟩:∃d,p[k]?=some d:=⟨p[k]'(by rw[W.out];exact aD),aA _⟩;obtain⟨E,po,rfl,a0,aF⟩:∃E po,pa=some ⟨E,po,none⟩/\E<B/\∀(s:Nat)(y:Tm n),p[s]?=some y->dr w E (po+s*4) n y/\In B w n y:=by
    rcases V.out with P|P
    ·rw[P]at u;simp at u
    ·exact P
   obtain⟨I,J⟩:=aF k d u;have N:=ai u;have aR:=ai (a1.out d (ay u));replace I:=I.below (i.out.mono H) a0;replace J:=J.below (i.out.mono H);have Q:B<=wr.heap.size:=au H i.out.size
   have F:Hid (∀h,Below wr.heap.size wr h->Calls Tryz.prog 150 #[.agg #[.slice a 4 c,.int .i64 self],dg n d] h (jr (m+n) (vl m b self n d) h)):=
    λh g=>ih.out d a c B h (J.below (g.mono Q)) aR.out ((aw.out.below (i.out.mono H)).below (g.mono Q)) (au Q g.size)
   obtain⟨Y,U⟩:∃Y,Y=vl m b self n d:=⟨_,rfl⟩;rw[<-U]at F;have L:=ai U;clear aF u V U J;cases n with
   | zero=>exact I.elim
   | succ n=>
   obtain⟨ba,bb,bc,bd⟩:=I;have A:dg (n+1) d=.agg #[.int .i64 d.1.1,.int .i64 d.1.2.1,.string d.1.2.2,.slice d.2.1.1 d.2.2.length d.2.1.2]:=rfl;rw[A]at F;clear A;generalize d.2.2.length=bq at*;have bn:(0:Int)<=(k:Int):=by omega
   have bo:(k:Int)<(len:Int):=by omega
   have bp:E<wr.heap.size:=by omega
   have aG:w.heap.size<wr.heap.size:=by have:=G.out.2.2;omega
   go_wp2_with fail;refine(F.out _ ((ah _ _).alloc (ag _) _)).mono ?_;rintro bj e ⟨y,a5,rfl,q⟩;have r:Hid (Below wr.heap.size wr e):=((ah _ _).alloc (ag _) _).trans (q.out.1.mono (by simp));have av:Hid (Below w.heap.size w e):=i.out.trans (r.out.mono i.out.size);have O:=ai (G.out.below r.out);replace Z:=(aj r.out _ _ aG).trans Z;replace aa:=(aj r.out _ _ aG).trans aa;have A:dg (m+(n+1)) y=.agg #[.int .i64 y.1.1,.int .i64 y.1.2.1,.string y.1.2.2,.slice y.2.1.1 y.2.2.length y.2.1.2]:=rfl;rw[A];clear F ba bb bc bd G A;cases a5
   ·have K:Hid (o=none):=by
      have g:vl m b self (n+1) d=none:=by
       have:=q.out.2.2.2.1;rw[<-L.out];cases Y with
       | none=>rfl
       | some ab=>cases this
      show o=none;rw[ap.out,lg _ p k d N.out g];rfl
    obtain⟨⟨ad,ae,af,ak⟩,⟨aT,aU,aV,aW⟩,aL⟩:=O.out;clear q j x;go_wp2_with fail;rw[K.out];exact ao (v:=.tuple #[.agg #[.int .i64 0,.int .i64 0,.string .empty,.slice none 0 0],.bool false]) (by simp[results,Tryz.results169,go_sem,ad,ae,af,ak,aL];rfl) rfl (jK ((cQ av.out (by omega) _ _ _ _).alloc (by rw[aZ];omega) _))
   ·have R:true=(vl m b self (n+1) d).isSome:=by rw[<-L.out];exact q.out.2.2.2.1
    obtain⟨ab,D,aK⟩:=Ju (f:=λy=>vl m b self (n+1) y) N.out R;have an:=ai (x.out.next N.out R);have t:=ai (j.out.step aD ab D r.out y q.out.2.1 (q.out.2.2.1.mono λaN X=>by have:=j.out.2.1.lt.2;simp at X;omega) (q.out.2.2.2.2 ab (by rw[L.out];exact aK)));have z:=ai (j.out.2.1.below r.out);have M:Hid (Below w.heap.size w (iH e (w.heap.size+1+1) (k*4) (iv (m+(n+1)) y))):=by
     have g:=av.out;exact⟨g.os,g.tape,g.output,au g.size (dp (aZ _ _ _ _).symm),λaN X=>(aO (by omega) _ _ _ _).trans (g.block aN X)⟩
    have aQ:Hid (∀o:Obj,Below w.heap.size w ((iH e (w.heap.size+1+1) (k*4) (iv (m+(n+1)) y)).alloc o)/\(((iH e (w.heap.size+1+1) (k*4) (iv (m+(n+1)) y)).alloc o).cell? ⟨w.heap.size,0,none⟩=some (.slice a 4 c)/\((iH e (w.heap.size+1+1) (k*4) (iv (m+(n+1)) y)).alloc o).cell? ⟨w.heap.size,1,none⟩=some (.int .i64 self))/\mC (w.heap.size+1) ((iH e (w.heap.size+1+1) (k*4) (iv (m+(n+1)) y)).alloc o)/\JG (λy=>vl m b self (n+1) y) p (k+1)/\∃l,sx (m+(n+1)) (uh (λy=>vl m b self (n+1) y) p) len (w.heap.size+1+1) (k+1) l ((iH e (w.heap.size+1+1) (k*4) (iv (m+(n+1)) y)).alloc o)):=by
     intro o;have C:Below (iH e (w.heap.size+1+1) (k*4) (iv (m+(n+1)) y)).heap.size (iH e (w.heap.size+1+1) (k*4) (iv (m+(n+1)) y)) ((iH e (w.heap.size+1+1) (k*4) (iv (m+(n+1)) y)).alloc o):=(ah _ _).alloc (ag _) _;have a2:(iH e (w.heap.size+1+1) (k*4) (iv (m+(n+1)) y)).heap.size=e.heap.size:=aZ _ _ _ _;have aX:=z.out.lt.2;refine⟨M.out.trans (C.mono M.out.size),⟨?_,?_⟩,?_,an.out,l++ [y],t.out.grow C⟩
     ·exact(aj C _ _ (by omega)).trans ((bi (aO (by omega) _ _ _ _) _).trans Z)
     ·exact(aj C _ _ (by omega)).trans ((bi (aO (by omega) _ _ _ _) _).trans aa)
     ·refine mC.below ?_ C;exact O.out.block (aO (by omega) _ _ _ _) (dp a2.symm)
    obtain⟨al,aM⟩:∃al,(l.map (λd=>(⟨m+(n+1),d⟩:An))++List.replicate (len-k) zA)[k]?=some al:=⟨_,aA (by simp[j.out.1];omega)⟩;obtain⟨be,bf,bg,bh⟩:=z.out.cells k al aM;have bk:=λa4=>z.out.free a4;have aX:w.heap.size+1+1<e.heap.size:=z.out.lt.2;clear q j x r i t an M z aM O D aK R;go_wp2_with fail;go_roundw
    case rel=>exact⟨k+1,by omega,by go_num,aQ.out _⟩
    case measure=>simp[intOf];omega
  ·obtain rfl:k=len:=by omega
   have K:Hid (o=some (cM (m+n) (uh (λy=>vl m b self n y) p))):=by
    show o=_;rw[ap.out,Hd x.out (by rw[W.out];exact ag _)];rfl
   have aS:=λa6 a7 a8 a9=>ai (EI j.out (by rw[He];exact W.out) rfl i.out aY (w.heap.size+1) (by omega) (by omega) a6 a7 a8 a9);obtain⟨⟨ad,ae,af,ak⟩,⟨aT,aU,aV,aW⟩,aL⟩:=G.out;clear x j i V aw;go_wp2_with fail;rw[K.out];exact ao (v:=.tuple #[.agg #[.int .i64 4,.int .i64 0,.string .empty,.slice (some ⟨w.heap.size+1+1,0,none⟩) k k],.bool true]) (by simp[results,Tryz.results169,go_sem,ad,ae,af,ak];rfl) rfl (aS _ _ _ _).out
theorem yT{P:Nat->Prop}:(N n:Nat)->n<=N->(x:Tm n)->ch P n x->ch P N (aI N n x)
 | _,0,_,_,k=>k.elim
 | 0,n+1,h,_,_=>by omega
 | N+1,n+1,h,x,k=>by
  rcases k with k|⟨b,o,e,c,k⟩
  ·exact ae (by simp[aI,k])
  ·refine af ⟨b,o,e,c,λi y a=>?_⟩;simp only[aI,dh]at a;obtain⟨z,d,rfl⟩:=cD.1 a;exact yT N n (by omega) z (k i z d)
theorem F4(N n:Nat)(x:Tm (n+1)):dg (N+1) (aI (N+1) (n+1) x)=dg (n+1) x:=by simp[dg,aI]
theorem F0{N n:Nat}(d:n<=N){x y:Tm (n+1)}(a:aB ⟨n+1,x⟩)(b:aw (n+1) y (n+1) x=true):aw (N+1) (aI (N+1) (n+1) y) (N+1) (aI (N+1) (n+1) x)=true:=by
 have c:aB ⟨n+1,y⟩:=aJ.2 (by rw[iJ _ _ _ _ b];exact aJ.1 a);exact bP _ _ _ _ _ _ (gd (N+1) (n+1) (by omega) y c) (bP _ _ _ _ _ _ b (dU _ _ _ _ (gd (N+1) (n+1) (by omega) x a)))
theorem EP{N n:Nat}(b:n<=N){x y:Tm (n+1)}{w w':World}(f:aB ⟨n+1,x⟩)(c:Below w.heap.size w w')(d:In w'.heap.size w' (n+1) y)(e:ch (λq=>w.heap.size<=q) (n+1) y)(g:aw (n+1) y (n+1) x=true)(r:Bool):jr (N+1) (if r then some (aI (N+1) (n+1) x)else none) w (.returned (.tuple #[.agg #[.int .i64 y.1.1,.int .i64 y.1.2.1,.string y.1.2.2,.slice y.2.1.1 y.2.2.length y.2.1.2],.bool r])) w':=by
 refine⟨aI (N+1) (n+1) y,r,by rw[F4];rfl,c,nE _ _ (by omega) _ _ _ d,yT _ _ (by omega) _ e,by cases r<;>rfl,λh a=>?_⟩;cases r with
 | false=>cases a
 | true=>
  obtain rfl:=ap a;exact F0 b f g
theorem uj{N:Nat}{o:Option (Tm (N+1))}{w w1 w2:World}{y:Tm (N+1)}{r:Bool}{q:Nat}(c:Below w.heap.size w w1)(j:w.heap.size<=q)(l:q<w1.heap.size)(d:Below w1.heap.size w1 w2/\In w2.heap.size w2 (N+1) y/\ch (λq=>w1.heap.size<=q) (N+1) y/\r=o.isSome/\∀z,o=some z->aw (N+1) y (N+1) z=true)(v0 v1 v2 v3:Value):jr (N+1) o w (.returned (.tuple #[.agg #[.int .i64 y.1.1,.int .i64 y.1.2.1,.string y.1.2.2,.slice y.2.1.1 y.2.2.length y.2.1.2],.bool r])) (cP w2 q 0 v0 v1 v2 v3):=by
 obtain⟨e,f,a,g,h⟩:=d;have k:=c.size;refine⟨y,r,rfl,cQ (c.trans (e.mono k)) j _ _ _ _,?_,a.mono λb i=>by omega,g,h⟩;rw[aZ];exact In.off (P:=λb=>w1.heap.size<=b) (λb i=>aO (by omega) _ _ _ _) a f
theorem uk{N n:Nat}(h:n<=N){x y:Tm (n+1)}{w w1 w2 g:World}{q:Nat}(p:aB ⟨n+1,x⟩)(e:Below w.heap.size w w1)(o:w.heap.size<=q)(s:q<w1.heap.size)(k:Below w1.heap.size w1 w2/\In w2.heap.size w2 (n+1) y/\ch (λq=>w1.heap.size<=q) (n+1) y/\aw (n+1) y (n+1) x=true)(a:Below w2.heap.size w2 g)(r:Bool)(v0 v1 v2 v3:Value):jr (N+1) (if r then some (aI (N+1) (n+1) x)else none) w (.returned (.tuple #[.agg #[.int .i64 y.1.1,.int .i64 y.1.2.1,.string y.1.2.2,.slice y.2.1.1 y.2.2.length y.2.1.2],.bool r])) (cP g q 0 v0 v1 v2 v3):=by
 obtain⟨c,i,d,j⟩:=k;have f:=e.size;have l:=(e.trans (c.mono f)).trans (a.mono (au f c.size));refine EP h p (cQ l o _ _ _ _) ?_ (d.mono λb m=>by omega) j r;rw[aZ];exact In.off (P:=λb=>w1.heap.size<=b) (λb m=>aO (by omega) _ _ _ _) d ((i.below a).mono a.size)
theorem xB{w:World}{s0 s1:Value}{t1 t2:TypeId}:Below w.heap.size w ((w.alloc (.cells #[s0,s1] t1)).alloc (.cells #[.int .i64 0,.int .i64 0,.string .empty,.slice none 0 0] t2))/\mC (w.heap.size+1) ((w.alloc (.cells #[s0,s1] t1)).alloc (.cells #[.int .i64 0,.int .i64 0,.string .empty,.slice none 0 0] t2)):=by
 have a:=vX (w:=w) (s0:=s0) (s1:=s1) (t1:=t1) (t2:=t2) (w':=(w.alloc (.cells #[s0,s1] t1)).alloc (.cells #[.int .i64 0,.int .i64 0,.string .empty,.slice none 0 0] t2)) (ir _ _);exact⟨a.1,a.2.2⟩
theorem xC{w w1:World}{s0 s1:Value}{t1 t2:TypeId}(a:w1=(w.alloc (.cells #[s0,s1] t1)).alloc (.cells #[.int .i64 0,.int .i64 0,.string .empty,.slice none 0 0] t2)):Below w.heap.size w w1/\mC (w.heap.size+1) w1/\w1.cell? ⟨w.heap.size,0,none⟩=some s0/\w1.cell? ⟨w.heap.size,1,none⟩=some s1:=by
 subst a;have a:=vX (w:=w) (s0:=s0) (s1:=s1) (t1:=t1) (t2:=t2) (w':=(w.alloc (.cells #[s0,s1] t1)).alloc (.cells #[.int .i64 0,.int .i64 0,.string .empty,.slice none 0 0] t2)) (ir _ _);exact⟨a.1,a.2.2,a.2.1.1,a.2.1.2⟩
theorem Jw(N:Nat)(o:Option (Tm (N+1)))(a:Option Addr)(c:Nat)(self:Int)(j:dc self)(pa:Option Addr)(len:Nat)(pc:Nat)(w:World)(d:Hid (∀w1,Below w.heap.size w w1->Calls Tryz.prog 167 #[.slice pa len pc,.string ni,.int .i64 0] w1 λe w'=>e=.returned (.bool true)/\w'=w1))(i:Hid (o=some (aS 3 self N))):Calls Tryz.prog 161 #[.agg #[.slice a 4 c,.int .i64 self],.slice pa len pc] w (jr (N+1) o w):=by
 go_enter Tryz.func161,Tryz.ntmps161;go_wp2_with fail;refine(d.out _ xB.1).mono ?_;rintro e w1 ⟨rfl,g⟩;obtain⟨f,b,x,y⟩:=xC g;have HB:=ai f;have h:=ai b;have t:w.heap.size<w1.heap.size:=by have:=b.2.2;omega
 clear g f b d;obtain⟨⟨k,l,m,n⟩,⟨p,q,r,s⟩,u⟩:=h.out;go_wp2_with fail;rw[i.out];exact ao (v:=.tuple #[.agg #[.int .i64 3,.int .i64 self,.string .empty,.slice none 0 0],.bool true]) (by simp[results,Tryz.results161,go_sem,k,l,m,n];rfl) rfl (vL (cQ HB.out (by omega) _ _ _ _) 3 self (by simp[dc]) j)
theorem KS(N:Nat)(o:Option (Tm (N+1)))(a:Option Addr)(c:Nat)(self:Int)(b po:Nat)(j k:Int)(l:ByteArray)(xa:Option Addr)(m xc:Nat)(y0 y1:Int)(y2:ByteArray)(ya:Option Addr)(yl yc:Nat)(pc:Nat)(w:World)(p:Hid (∀w1,Below w.heap.size w w1->Calls Tryz.prog 167 #[.slice (some ⟨b,po,none⟩) 3 pc,.string ni,.int .i64 0] w1 λe w'=>e=.returned (.bool false)/\w'=w1))(D:Hid (∀w1,Below w.heap.size w w1->Calls Tryz.prog 167 #[.slice (some ⟨b,po,none⟩) 3 pc,.string qU,.int .i64 2] w1 λe w'=>e=.returned (.bool true)/\w'=w1))(g:b<w.heap.size)(G:w.cell? ⟨b,po+4,none⟩=some (.int .i64 j)/\w.cell? ⟨b,po+4+1,none⟩=some (.int .i64 k)/\w.cell? ⟨b,po+4+2,none⟩=some (.string l)/\w.cell? ⟨b,po+4+3,none⟩=some (.slice xa m xc))(H:w.cell? ⟨b,po+8,none⟩=some (.int .i64 y0)/\w.cell? ⟨b,po+8+1,none⟩=some (.int .i64 y1)/\w.cell? ⟨b,po+8+2,none⟩=some (.string y2)/\w.cell? ⟨b,po+8+3,none⟩=some (.slice ya yl yc))(E:Hid (∀w1,Below w.heap.size w w1->Calls Tryz.prog 168 #[.agg #[.slice a 4 c,.int .i64 self],.agg #[.int .i64 j,.int .i64 k,.string l,.slice xa m xc],.agg #[.int .i64 y0,.int .i64 y1,.string y2,.slice ya yl yc]] w1 (jr (N+1) o w1))):Calls Tryz.prog 161 #[.agg #[.slice a 4 c,.int .i64 self],.slice (some ⟨b,po,none⟩) 3 pc] w (jr (N+1) o w):=by
 go_enter Tryz.func161,Tryz.ntmps161;go_wp2_with fail;refine(p.out _ xB.1).mono ?_;rintro e w1 ⟨rfl,r⟩;obtain⟨q,i,ae,af⟩:=xC r;have HB:=ai q;have n:=ai i;have ab:w.heap.size<w1.heap.size:=by have:=i.2.2;omega
 clear r q i p;have f:=aj HB.out;obtain⟨s,t,u,x⟩:=G;obtain⟨y,z,A,B⟩:=H;replace s:=(f _ _ g).trans s;replace t:=(f _ _ g).trans t;replace u:=(f _ _ g).trans u;replace x:=(f _ _ g).trans x;replace y:=(f _ _ g).trans y;replace z:=(f _ _ g).trans z;replace A:=(f _ _ g).trans A;replace B:=(f _ _ g).trans B;clear f;go_wp2_with fail;refine(D.out _ HB.out).mono ?_;rintro e P ⟨rfl,rfl⟩;have aa:b<P.heap.size:=aL g HB.out.size;have Y:¬(w.heap.size+1=b):=by omega
 have Z:¬(b=w.heap.size+1):=by omega
 have I:∀d:Tm (N+1),dg (N+1) d=.agg #[.int .i64 d.1.1,.int .i64 d.1.2.1,.string d.1.2.2,.slice d.2.1.1 d.2.2.length d.2.1.2]:=λ_=>rfl;go_wp2_with fail
 go_region_held3 (λw'=>w'.cell? ⟨w.heap.size,0,none⟩=some (.slice a 4 c)/\w'.cell? ⟨w.heap.size,1,none⟩=some (.int .i64 self)/\w'.cell? ⟨b,po+4,none⟩=some (.int .i64 j)/\w'.cell? ⟨b,po+4+1,none⟩=some (.int .i64 k)/\w'.cell? ⟨b,po+4+2,none⟩=some (.string l)/\w'.cell? ⟨b,po+4+3,none⟩=some (.slice xa m xc)
     /\w'.cell? ⟨b,po+8,none⟩=some (.int .i64 y0)/\w'.cell? ⟨b,po+8+1,none⟩=some (.int .i64 y1)/\w'.cell? ⟨b,po+8+2,none⟩=some (.string y2)/\w'.cell? ⟨b,po+8+3,none⟩=some (.slice ya yl yc))
  (go_keep) ((go_at_call 168;refine(E.out _ HB.out.drew).mono ?_;rintro e ag ⟨d,J,rfl,h⟩;rw[I];have f:=aj (co h.out.1);have C:=ai (n.out.below (co h.out.1));obtain⟨⟨Q,R,S,T⟩,⟨U,V,W,X⟩,ad⟩:=C.out))
 have F:=λK L M O=>ai (uj HB.out.drew (io _ 1) n.out.2.2 h.out K L M O);clear h f;go_wp2_with fail;exact ao (v:=.tuple #[.agg #[.int .i64 d.1.1,.int .i64 d.1.2.1,.string d.1.2.2,.slice d.2.1.1 d.2.2.length d.2.1.2],.bool J]) (by simp[results,Tryz.results161,go_sem,Q,R,S,T]) rfl (F _ _ _ _).out
theorem KT(N:Nat)(o:Option (Tm (N+1)))(a:Option Addr)(c:Nat)(self:Int)(b po:Nat)(n:Nat)(L:n<=N)(x:Tm (n+1))(cl:Bool)(pc:Nat)(w:World)(l:Hid (∀w1,Below w.heap.size w w1->Calls Tryz.prog 167 #[.slice (some ⟨b,po,none⟩) 2 pc,.string ni,.int .i64 0] w1 λe w'=>e=.returned (.bool false)/\w'=w1))(C:Hid (∀w1,Below w.heap.size w w1->Calls Tryz.prog 167 #[.slice (some ⟨b,po,none⟩) 2 pc,.string qU,.int .i64 2] w1 λe w'=>e=.returned (.bool false)/\w'=w1))(D:Hid (∀w1,Below w.heap.size w w1->Calls Tryz.prog 167 #[.slice (some ⟨b,po,none⟩) 2 pc,.string qV,.int .i64 1] w1 λe w'=>e=.returned (.bool true)/\w'=w1))(f:b<w.heap.size)(M:dr w b (po+4) (n+1) x)(H:Hid (aB ⟨n+1,x⟩))(G:Hid (∀w1,Below w.heap.size w w1->Calls Tryz.prog 45 #[.agg #[.int .i64 x.1.1,.int .i64 x.1.2.1,.string x.1.2.2,.slice x.2.1.1 x.2.2.length x.2.1.2]] w1 λe w'=>∃y:Tm (n+1),e=.returned (dg (n+1) y)/\Hid (Below w1.heap.size w1 w'/\In w'.heap.size w' (n+1) y/\ch (λq=>w1.heap.size<=q) (n+1) y/\aw (n+1) y (n+1) x=true)))(E:Hid (∀w1,Below w.heap.size w w1->Calls Tryz.prog 43 #[.agg #[.int .i64 x.1.1,.int .i64 x.1.2.1,.string x.1.2.2,.slice x.2.1.1 x.2.2.length x.2.1.2]] w1 λe w'=>e=.returned (.bool cl)/\Below w1.heap.size w1 w'))(F:Hid (o=if cl then some (aI (N+1) (n+1) x)else none)):Calls Tryz.prog 161 #[.agg #[.slice a 4 c,.int .i64 self],.slice (some ⟨b,po,none⟩) 2 pc] w (jr (N+1) o w):=by
 go_enter Tryz.func161,Tryz.ntmps161;go_wp2_with fail;refine(l.out _ xB.1).mono ?_;rintro e w1 ⟨rfl,p⟩;obtain⟨m,i,ak,al⟩:=xC p;have HB:=ai m;have k:=ai i;have ag:w.heap.size<w1.heap.size:=by have:=i.2.2;omega
 clear p m i l;have d:=aj HB.out;obtain⟨t,u,z,A⟩:=M;replace t:=(d _ _ f).trans t;replace u:=(d _ _ f).trans u;replace z:=(d _ _ f).trans z;replace A:=(d _ _ f).trans A;clear d;generalize x.2.2.length=S at*;go_wp2_with fail;refine(C.out _ HB.out).mono ?_;rintro e r ⟨rfl,rfl⟩;go_wp2_with fail;refine(D.out _ HB.out).mono ?_;rintro e r ⟨rfl,rfl⟩;have ae:b<r.heap.size:=aL f HB.out.size;have ab:¬(w.heap.size+1=b):=by omega
 have ad:¬(b=w.heap.size+1):=by omega
 have J:∀y:Tm (n+1),dg (n+1) y=.agg #[.int .i64 y.1.1,.int .i64 y.1.2.1,.string y.1.2.2,.slice y.2.1.1 y.2.2.length y.2.1.2]:=λ_=>rfl;go_wp2_with fail
 go_region_held3 (λw'=>w'.cell? ⟨b,po+4,none⟩=some (.int .i64 x.1.1)/\w'.cell? ⟨b,po+4+1,none⟩=some (.int .i64 x.1.2.1)/\w'.cell? ⟨b,po+4+2,none⟩=some (.string x.1.2.2)/\w'.cell? ⟨b,po+4+3,none⟩=some (.slice x.2.1.1 S x.2.1.2))
  (go_keep) ((first|(go_at_call 45;refine(G.out _ HB.out.drew).mono ?_;rintro e s ⟨y,rfl,g⟩;rw[J];have d:=aj (co g.out.1);have j:Hid (Below w.heap.size w s):=(HB.out.drew).trans (g.out.1.mono HB.out.size))|(go_at_call 43;refine(E.out _ j.out).mono ?_;rintro e am ⟨rfl,h⟩;have K:=aj h;have af:b<s.heap.size:=aL f j.out.size;have B:=ai ((k.out.below (co g.out.1)).below h);obtain⟨⟨T,U,V,W⟩,⟨X,Y,Z,aa⟩,ah⟩:=B.out)))
 have I:=λO P Q R=>ai (uk L H.out HB.out.drew (io _ 1) k.out.2.2 g.out h cl O P Q R);clear g d K h;go_wp2_with fail;rw[F.out];exact ao (v:=.tuple #[.agg #[.int .i64 y.1.1,.int .i64 y.1.2.1,.string y.1.2.2,.slice y.2.1.1 y.2.2.length y.2.1.2],.bool cl]) (by simp[results,Tryz.results161,go_sem,T,U,V,W]) rfl (I _ _ _ _).out
theorem Jv(N:Nat)(o:Option (Tm (N+1)))(a:Option Addr)(c:Nat)(self:Int)(pa:Option Addr)(len:Nat)(pc:Nat)(w:World)(h:Hid (∀w1,Below w.heap.size w w1->Calls Tryz.prog 167 #[.slice pa len pc,.string ni,.int .i64 0] w1 λe w'=>e=.returned (.bool false)/\w'=w1))(i:Hid (∀w1,Below w.heap.size w w1->Calls Tryz.prog 167 #[.slice pa len pc,.string qU,.int .i64 2] w1 λe w'=>e=.returned (.bool false)/\w'=w1))(j:Hid (∀w1,Below w.heap.size w w1->Calls Tryz.prog 167 #[.slice pa len pc,.string qV,.int .i64 1] w1 λe w'=>e=.returned (.bool false)/\w'=w1))(k:Hid (∀w1,Below w.heap.size w w1->Calls Tryz.prog 169 #[.agg #[.slice a 4 c,.int .i64 self],.slice pa len pc] w1 (jr (N+1) o w1))):Calls Tryz.prog 161 #[.agg #[.slice a 4 c,.int .i64 self],.slice pa len pc] w (jr (N+1) o w):=by
 go_enter Tryz.func161,Tryz.ntmps161;go_wp2_with fail;refine(h.out _ xB.1).mono ?_;rintro e w1 ⟨rfl,n⟩;obtain⟨m,f,J,K⟩:=xC n;have HB:=ai m;have g:=ai f;have H:w.heap.size<w1.heap.size:=by have:=f.2.2;omega
 clear n m f h;go_wp2_with fail;refine(i.out _ HB.out).mono ?_;rintro e y ⟨rfl,rfl⟩;go_wp2_with fail;refine(j.out _ HB.out).mono ?_;rintro e y ⟨rfl,rfl⟩;go_wp2_with fail;refine(k.out _ HB.out).mono ?_;rintro e L ⟨b,r,rfl,d⟩;have p:=ai (g.out.below d.out.1);have q:=λs t u x=>ai (uj HB.out (io _ 1) g.out.2.2 d.out s t u x);obtain⟨⟨z,A,B,C⟩,⟨D,E,F,G⟩,I⟩:=p.out;have l:dg (N+1) b=.agg #[.int .i64 b.1.1,.int .i64 b.1.2.1,.string b.1.2.2,.slice b.2.1.1 b.2.2.length b.2.1.2]:=rfl;rw[l];clear d k i j l;go_wp2_with fail;exact ao (v:=.tuple #[.agg #[.int .i64 b.1.1,.int .i64 b.1.2.1,.string b.1.2.2,.slice b.2.1.1 b.2.2.length b.2.1.2],.bool r]) (by simp[results,Tryz.results161,go_sem,z,A,B,C]) rfl (q _ _ _ _).out
end Go.Proofs.YtnidfceinoiboaaGreat
