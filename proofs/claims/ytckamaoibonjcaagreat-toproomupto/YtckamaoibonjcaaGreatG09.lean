/- What is proved here: plain facts and contracts that the claimed theorem stands on. No condition but those that each names. -/
import Derived.Test.YtckamaoibonjcaaGreatG08
namespace Go.Proofs.YtckamaoibonjcaaGreat
open Go.RowKit
set_option maxRecDepth 100000
set_option maxHeartbeats 1000000
def oZ:ByteArray:=⟨#[115,101,108,102]⟩
def uW:ByteArray:=⟨#[97,100,100]⟩
def Bt:ByteArray:=⟨#[112,117,116]⟩
def oN(N:Nat)(x:Tm N):Int:=(fQ N x).1.2.1
def sY(n:Nat)(p:List (Tm n))(s:ByteArray)(k:Nat):Bool:=
 decide (p.length=1+k) && match p[0]? with
  | some a=>bK ⟨n,a⟩==2 && (fQ n a).1.2.2.toList==s.toList
  | none=>false
def cw{c d:Type}(f:c->Option d):List c->Option (List d)
 | []=>some []
 | a::p=>(f a).bind λb=>(cw f p).map λl=>b::l
def bF(k a:Int)(N:Nat):Tm (N+1):=((k,a,.empty),(none,0),[])
def yz(N:Nat)(a c:Tm N):Bool:=bK ⟨N,a⟩==1 && bK ⟨N,c⟩==1 && pT (oN N a+oN N c) (-1099511627776) 1099511627776
def sQ(N:Nat)(a c:Tm N):Option (Tm (N+1)):=if yz N a c then some (bF 1 (oN N a+oN N c) N)else none
def cR(N:Nat)(l:List (Tm N)):Tm (N+1):=((4,0,.empty),(none,0),l)
def vl(m:Nat)(b:List (Tm m))(self:Int):(n:Nat)->Tm n->Option (Tm (m+n))
 | 0,_=>none
 | n+1,x=>
  if x.1.1=5 then (b[x.1.2.1.toNat]?).bind λy=>if bK ⟨m,y⟩=6 then none else some (aK (m+n+1) m y)
  else if x.1.1=6 then none
  else if x.1.1=4 then
   if sY n x.2.2 oZ 0 then some (bF 3 self (m+n))
   else if sY n x.2.2 uW 2 then
    (x.2.2[1]?).bind λa=>(x.2.2[2]?).bind λc=>(vl m b self n a).bind λa=>(vl m b self n c).bind λc=>sQ (m+n) a c
   else if sY n x.2.2 Bt 1 then
    (x.2.2[1]?).bind λa=>if aF n a then some (aK (m+n+1) n a)else none
   else (cw (λy=>vl m b self n y) x.2.2).map (cR (m+n))
  else some (aK (m+n+1) (n+1) x)
theorem p8{e g:Type}(f:e->Option g):(p:List e)->(l:List g)->cw f p=some l->l.length=p.length/\∀(i:Nat)(a:e)(y:g),p[i]?=some a->l[i]?=some y->f a=some y
 | [],l,b=>by simp[cw]at b;subst b;exact⟨rfl,λi a y c=>by simp at c⟩
 | a::p,l,b=>by
  simp only[cw]at b;obtain⟨y,n,b⟩:=bj.1 b;obtain⟨r,m,rfl⟩:=b8.1 b;obtain⟨j,k⟩:=p8 f p r m;refine⟨by simp[j],λi h o c d=>?_⟩;cases i with
  | zero=>
   simp at c d;subst c d;exact n
  | succ i=>exact k i h o (by simpa using c) (by simpa using d)
theorem lq{c d:Type}(f:c->Option d):(p:List c)->(i:Nat)->(a:c)->p[i]?=some a->f a=none->cw f p=none
 | [],i,a,h,_=>by simp at h
 | b::p,0,a,h,k=>by
  simp at h;subst h;simp[cw,k]
 | b::p,i+1,a,h,k=>by
  simp only[cw];rw[lq f p i a (by simpa using h) k];simp
theorem vD{b c:Type}(f:b->Option c)(g:b->c):(p:List b)->(∀a∈p,f a=some (g a))->cw f p=some (p.map g)
 | [],_=>rfl
 | a::p,h=>by simp[cw,h a (by simp),vD f g p λx d=>h x (bI _ d)]
theorem xJ{b c d:Type}(f:b->List d)(g:c->List d)(K:Nat):(p:List b)->(l:List c)->l.length=p.length->(∀(i:Nat)(a:b)(y:c),p[i]?=some a->l[i]?=some y->(g y).length<=K*(f a).length)->(l.flatMap g).length<=K*(p.flatMap f).length
 | [],[],_,_=>by simp
 | [],_::_,h,_=>by simp at h
 | _::_,[],h,_=>by simp at h
 | a::p,y::l,h,k=>by
  have m:=k 0 a y rfl rfl;have n:=xJ f g K p l (by simpa using h) λi a y e j=>k (i+1) a y (by simpa using e) (by simpa using j);simp only[bv,aY];rw[Nat.mul_add];omega
theorem nX:(N n:Nat)->n<=N->(x:Tm n)->(ar N (aK N n x)).length<=(ar n x).length
 | 0,0,_,_=>ai _
 | _+1,0,_,_=>by simp[aK,ar]
 | 0,n+1,h,_=>by omega
 | N+1,n+1,h,x=>by
  have:=xJ (λy=>ar n y) (λy=>ar N y) 1 x.2.2 (x.2.2.map λy=>aK N n y) (by simp) λi a y c b=>by
   simp[c]at b;subst b;rw[Nat.one_mul];exact nX N n (by omega) a
  simp only[ar,aK,aV];omega
theorem ue{a K:Nat}(b:1<=K):a<=K*a:=Nat.le_mul_of_pos_left a b
theorem Aq{d e:Type}(f:d->List e)(p:List d)(a:d)(c:a∈p):(f a).length<=(p.flatMap f).length:=by
 induction p with
 | nil=>cases c
 | cons b p ih=>
  simp only[bv,aY];rcases cv.1 c with rfl|c
  ·omega
  ·have:=ih c;omega
theorem Bq(m:Nat)(b:List (Tm m))(self:Int)(K:Nat)(f:1<=K)(q:∀y∈b,(ar m y).length<=K):(n:Nat)->(x:Tm n)->(o:Tm (m+n))->vl m b self n x=some o->(ar (m+n) o).length<=K*(ar n x).length
 | 0,_,_,d=>by simp[vl]at d
 | n+1,x,o,d=>by
  have one:∀k r,(ar (m+n+1) (bF k r (m+n))).length<=K*(ar (n+1) x).length:=λk r=>by
   have:1*1<=K*(ar (n+1) x).length:=Nat.mul_le_mul f (by simp[ar]);simpa [ar,bF]using this
  have up:∀(y:Tm n),y∈x.2.2->K*(ar n y).length<=K*(ar (n+1) x).length:=λy j=>by
   have:=Aq (λy=>ar n y) x.2.2 y j;exact Nat.mul_le_mul_left K (by simp only[ar,aV]at this ⊢;omega)
  simp only[vl]at d;split at d
  ·obtain⟨y,j,d⟩:=bj.1 d;split at d
   ·cases d
   ·obtain rfl:=aq d;have e:=nX (m+n+1) m (by omega) y;have g:=q y (aC j);have h:K*1<=K*(ar (n+1) x).length:=Nat.mul_le_mul_left K (by simp[ar]);show (ar (m+n+1) _).length<=_;omega
  ·split at d
   ·cases d
   ·split at d
    ·split at d
     ·obtain rfl:=aq d;exact one _ _
     ·split at d
      ·obtain⟨a,p,d⟩:=bj.1 d;obtain⟨c,A,d⟩:=bj.1 d;obtain⟨v,z,d⟩:=bj.1 d;obtain⟨w,B,d⟩:=bj.1 d;unfold sQ at d;split at d
       ·obtain rfl:=aq d;exact one _ _
       ·cases d
      ·split at d
       ·obtain⟨a,p,d⟩:=bj.1 d;split at d
        ·obtain rfl:=aq d;have e:=nX (m+n+1) n (by omega) a;have g:=up a (aC p);have h:=ue (a:=(ar n a).length) f;show (ar (m+n+1) _).length<=_;omega
        ·cases d
       ·obtain⟨l,u,rfl⟩:=b8.1 d;obtain⟨e,g⟩:=p8 _ _ _ u;have h:=xJ (λy=>ar n y) (λy=>ar (m+n) y) K x.2.2 l e λi a y s t=>Bq m b self K f q n a y (g i a y s t);show (ar (m+n+1) (cR (m+n) l)).length<=_;simp only[ar,cR,aV];rw[Nat.mul_add];omega
    ·obtain rfl:=aq d;have e:=nX (m+n+1) (n+1) (by omega) x;have h:=ue (a:=(ar (n+1) x).length) f;show (ar (m+n+1) _).length<=_;omega
theorem jS:(n:Nat)->(x:Tm n)->(m:Nat)->(y:Tm m)->au n x m y=true->(ar n x).length=(ar m y).length
 | 0,_,_,_,h=>by simp[au]at h
 | _+1,_,0,_,h=>by simp[au]at h
 | n+1,x,m+1,y,h=>by
  obtain⟨f,e⟩:=bz h;have key:∀(p:List (Tm n))(q:List (Tm m)),az (λa b=>au n a m b) p q=true->(p.flatMap λy=>ar n y).length=(q.flatMap λy=>ar m y).length:=by
   intro p
   induction p with
   | nil=>intro q d;cases q with
    | nil=>rfl
    | cons _ _=>simp[az]at d
   | cons a p ih=>intro q d;cases q with
    | nil=>simp[az]at d
    | cons c q=>
     simp only[az,ay]at d;simp only[bv,aY];rw[jS n a m c d.1,ih q d.2]
  simp only[ar,aV];rw[key _ _ e]
theorem br{n:Nat}{x:Tm n}:bm n x=0 ↔ bQ n x=true/\eW n x<=12/\sz n x<=200:=by
 rw[<-fS];unfold vv;constructor
 ·intro a;split at a
  ·rename_i c;split at a
   ·cases a
   ·rename_i f;exact⟨c,by omega,by omega⟩
  ·cases a
 ·rintro ⟨b,d,e⟩;rw[if_pos b,if_neg (by omega)]
theorem Ea:(n:Nat)->(x:Tm n)->av ⟨n,x⟩->((ar n x).length:Int)<=sz n x+1
 | 0,_,h=>(cY h).elim
 | n+1,x,h=>by
  have c:=eg (bu n x) (h (bu n x) (by simp[ar,bu]));by_cases a:x.1.1=4
  ·have key:∀l:List (Tm n),(∀y∈l,av ⟨n,y⟩)->((l.flatMap λy=>ar n y).length:Int)<=(l.map λy=>1+sz n y).sum:=by
     intro l
     induction l with
     | nil=>intro _;simp
     | cons y l ih=>
      intro b;have g:=Ea n y (b y (by simp));have i:=ih λf e=>b f (bI _ e);simp only[bv,aY,aH,bq];omega
   have:=key x.2.2 λy d=>aN n x y h d;simp only[ar,aV,sz,if_pos a];omega
  ·have:x.2.2=[]:=bD (c.2.2.2.2 a);simp[ar,this,sz,a]
theorem ni{n:Nat}{x:Tm n}(a:bm n x=0):(ar n x).length<=201:=by
 obtain⟨b,_,c⟩:=br.1 a;have:=Ea n x (aG.2 b);omega
theorem gK{m:Nat}{b:List (Tm m)}(a:fO m b=true):b.length=4/\∀y∈b,bm m y=0/\av ⟨m,y⟩/\(bK ⟨m,y⟩=6\/aF m y=true):=by
 unfold fO at a;simp only[ay,bT,bX]at a;refine⟨a.1,λy c=>?_⟩;have:=a.2 y c;unfold AD at this;simp only[ay,gU,b9]at this;refine⟨this.1,aG.2 (br.1 this.1).1,?_⟩;rw[eT];exact this.2
theorem py{N n:Nat}(e:n<=N)(x:Tm n)(c:av ⟨n,x⟩):av ⟨N,aK N n x⟩:=by
 cases n with
 | zero=>exact(cY c).elim
 | succ n=>
  obtain⟨a,rfl⟩:∃a,N=a+1:=⟨N-1,by omega⟩;intro d b;simp only at b;rw[mE a n (by omega) x]at b;exact c d b
theorem uE{N:Nat}{x:Tm (N+1)}(c:cm (bu N x)=true)(k:∀y∈x.2.2,av ⟨N,y⟩):av ⟨N+1,x⟩:=by
 intro b a;simp only[ar,cv,jd]at a;rcases a with rfl|⟨y,d,a⟩
 ·exact c
 ·exact k y d b a
theorem uT(m:Nat)(b:List (Tm m))(self:Int)(k:1<=self/\self<=99)(i:∀y∈b,av ⟨m,y⟩):(n:Nat)->(x:Tm n)->av ⟨n,x⟩->(g:Tm (m+n))->vl m b self n x=some g->av ⟨m+n,g⟩
 | 0,_,_,_,d=>by simp[vl]at d
 | n+1,x,hr,g,d=>by
  have r:=hr (bu n x) (by simp[ar,bu]);have B:x.2.2.length<=8:=lF (bu n x) r;simp only[vl]at d;split at d
  ·obtain⟨y,e,d⟩:=bj.1 d;split at d
   ·cases d
   ·obtain rfl:=aq d;exact py (N:=m+n+1) (by omega) y (i y (aC e))
  ·split at d
   ·cases d
   ·split at d
    ·split at d
     ·obtain rfl:=aq d;exact uE (N:=m+n) (by simp[cm,bF,bu,pT,k]) (by intro y e;cases e)
     ·split at d
      ·obtain⟨a,h,d⟩:=bj.1 d;obtain⟨c,z,d⟩:=bj.1 d;obtain⟨u,w,d⟩:=bj.1 d;obtain⟨v,A,d⟩:=bj.1 d;unfold sQ at d;split at d
       ·rename_i o;obtain rfl:=aq d;simp only[yz,ay]at o;exact uE (N:=m+n) (by simp[cm,bF,bu,o.2]) (by intro y e;cases e)
       ·cases d
      ·split at d
       ·obtain⟨a,h,d⟩:=bj.1 d;split at d
        ·obtain rfl:=aq d;exact py (N:=m+n+1) (by omega) a (aN n x a hr (aC h))
        ·cases d
       ·obtain⟨l,t,rfl⟩:=b8.1 d;obtain⟨p,q⟩:=p8 _ _ _ t;refine uE (N:=m+n) ?_ λy e=>?_
        ·have:(l.length:Int)<=8:=by omega
         simp[cm,cR,bu,this]
        ·obtain⟨f,j⟩:=cM e;have s:f<x.2.2.length:=by rw[<-p];exact(aL.1 j).1
         exact uT m b self k i n x.2.2[f] (aN n x _ hr (jc _)) y (q f _ y (aD s) j)
    ·obtain rfl:=aq d;exact py (N:=m+n+1) (by omega) x hr
def Ej(a:Int)(bd:Bool)(self:Int):Int:=if a=0 then if bd then if 1<=self/\self<=99 then 0 else 1 else 5 else a
def nb{N:Nat}(E:Int)(o:Option (Tm N)):Option (Tm N):=if E=0 then o.bind λa=>if bm N a=0 then some a else none else none
def Ei{N:Nat}(E:Int)(o:Option (Tm N)):Int:=if E=0 then if o.isSome then 0 else 7 else E
theorem D5{n:Nat}{p:List (Tm n)}{s:ByteArray}{k:Nat}(a:p.length≠1+k):sY n p s k=false:=by simp[sY,a]
theorem Mz{n:Nat}{p:List (Tm (n+1))}{s:ByteArray}{k:Nat}{y:Tm (n+1)}(a:p.length=1+k)(b:p[0]?=some y):sY (n+1) p s k=(y.1.1==2 && y.1.2.2.toList==s.toList):=by
 simp[sY,a,b,bK,fQ,bu]
theorem Fj(a:Option Addr)(len pc:Nat)(s:ByteArray)(k:Nat)(w:World)(f:k<=8)(c:len≠1+k):ah 181 #[.slice a len pc,.string s,.int .i64 k] w λe w'=>e=.returned (.bool false)/\w'=w:=by
 have d:((len:Int)==1+(k:Int))=false:=by simp;omega
 have b:IntKind.i64.wrap (1+(k:Int))=1+(k:Int):=by rw[IntKind.wrap];simp[IntKind.bits,IntKind.signed];omega
 go_enter Tryz.func181,Tryz.ntmps181;go_wp2_with fail
 go_ret
 exact⟨rfl,rfl⟩
theorem Fi(a po len pc:Nat)(s:ByteArray)(k:Nat)(b:Int)(c:ByteArray)(w:World)(l:len<=8)(j:k<=8)(g:len=1+k)(c0:w.cell? ⟨a,po,none⟩=some (.int .i64 b))(d:w.cell? ⟨a,po+2,none⟩=some (.string c)):ah 181 #[.slice (some ⟨a,po,none⟩) len pc,.string s,.int .i64 k] w λe w'=>e=.returned (.bool (b==2 && c.toList==s.toList))/\w'=w:=by
 have h:((len:Int)==1+(k:Int))=true:=by simp;omega
 have f:IntKind.i64.wrap (1+(k:Int))=1+(k:Int):=by rw[IntKind.wrap];simp[IntKind.bits,IntKind.signed];omega
 have i:(0:Int)<(len:Int):=by omega
 cases hx:b==2
 ·go_enter Tryz.func181,Tryz.ntmps181;go_wp2_with fail
  go_ret
  exact⟨rfl,rfl⟩
 ·go_enter Tryz.func181,Tryz.ntmps181;go_wp2_with fail
  go_ret
  exact⟨rfl,rfl⟩
theorem Cp(n:Nat)(p:List (Tm n))(a:Option Addr)(pc B:Nat)(s:ByteArray)(k:Nat)(w:World)(d:fe B w n p a)(m:p.length<=8)(h:k<=8):ah 181 #[.slice a p.length pc,.string s,.int .i64 k] w λe w'=>e=.returned (.bool (sY n p s k))/\w'=w:=by
 by_cases c:p.length=1+k
 ·rcases d with d|⟨b,o,rfl,u,d⟩
  ·rw[d]at c;simp at c;omega
  ·obtain⟨f,i⟩:∃f,p[0]?=some f:=⟨p[0]'(by omega),aD _⟩;obtain⟨g,t⟩:=d 0 f i;cases n with
   | zero=>exact g.elim
   | succ n=>
    rw[Mz c i];obtain⟨j,q,l,r⟩:=g;exact Fi b o p.length pc s k f.1.1 f.1.2.2 w m h c (by simpa using j) (by simpa using l)
 ·rw[D5 c];exact Fj a p.length pc s k w h c
def jA(N:Nat)(o:Option (Tm N))(w:World)(e:Ending)(w':World):Prop:=
 ∃(a:Tm N)(b:Bool),e=.returned (.tuple #[dd N a,.bool b])/\Hid (ag w w'/\In w'.heap.size w' N a/\bV (λd=>w.heap.size<=d) N a/\b=o.isSome/\∀c,o=some c->au N a N c=true)
def L5(m:Nat)(b:List (Tm m))(self:Int)(n:Nat):Prop:=∀(x:Tm n)(a:Option Addr)(c B:Nat)(w:World),In B w n x->av ⟨n,x⟩->fe B w m b a->B<=w.heap.size->
 ah 164 #[.agg #[.slice a 4 c,.int .i64 self],dd n x] w (jA (m+n) (vl m b self n x) w)
def L7{N:Nat}(o:Option (Tm N))(w:World)(e:Ending)(w':World):Prop:=
 ∃(c:Int)(b:Bool),e=.returned (.tuple #[.int .i64 c,.bool b])/\Hid (ag w w'/\b=(o.isSome && o.all λa=>bK ⟨N,a⟩==1)/\∀a,o=some a->c=oN N a)
theorem CE{N:Nat}{o:Option (Tm (N+1))}{w w1 w2:World}{y:Tm (N+1)}{r:Bool}(f:ag w w2)(d:ag w1 w2/\In w2.heap.size w2 (N+1) y/\bV (λq=>w1.heap.size<=q) (N+1) y/\r=o.isSome/\∀a,o=some a->au (N+1) y (N+1) a=true)(c:Bool)(g:c=(r && y.1.1==1)):ag w w2/\c=(o.isSome && o.all λa=>bK ⟨N+1,a⟩==1)/\∀a,o=some a->y.1.2.1=oN (N+1) a:=by
 obtain⟨_,_,_,e,b⟩:=d;refine⟨f,?_,λa h=>?_⟩
 ·rw[g,e];cases ho:o with
  | none=>rfl
  | some a=>
   have:=(bz (b a ho)).1;simp[bK,this]
 ·have:=(bz (b a h)).1;simp[oN,fQ,bu,this]
theorem Gz{w w':World}{a b:Obj}(d:Below ((w.alloc a).alloc b).heap.size ((w.alloc a).alloc b) w'):ag w w':=by
 have c:ag w ((w.alloc a).alloc b):=((ak _ _).alloc (ai _) _).alloc (by simp) _;exact c.trans (d.mono c.size)
theorem si(N:Nat)(o:Option (Tm (N+1)))(a:Option Addr)(c:Nat)(self:Int)(k l:Int)(m:ByteArray)(xa:Option Addr)(n xc:Nat)(w:World)(i:Hid (∀w1,ag w w1->ah 164 #[.agg #[.slice a 4 c,.int .i64 self],.agg #[.int .i64 k,.int .i64 l,.string m,.slice xa n xc]] w1 (jA (N+1) o w1))):ah 186 #[.agg #[.slice a 4 c,.int .i64 self],.agg #[.int .i64 k,.int .i64 l,.string m,.slice xa n xc]] w (L7 o w):=by
 go_enter Tryz.func186,Tryz.ntmps186;go_wp2_with fail;refine(i.out _ (((ak _ _).alloc (ai _) _).alloc (by simp) _)).mono ?_;rintro s f ⟨d,q,rfl,e⟩;have HB:Hid (ag w f):=Gz e.out.1;have j:dd (N+1) d=.agg #[.int .i64 d.1.1,.int .i64 d.1.2.1,.string d.1.2.2,.slice d.2.1.1 d.2.2.length d.2.1.2]:=rfl;rw[j];clear j i;have h:=λr p=>aj (CE HB.out e.out r p);clear HB e;have g:Hid (∀o:Obj,ag w f->ag w (f.alloc o).drew):=λo b=>(b.alloc b.size o).drew;cases q
 ·go_wp2_with fail;go_region;go_wp2_with fail
  go_ret2
  have b:=(h false rfl).out;exact⟨_,_,rfl,g.out _ b.1,b.2⟩
 ·go_wp2_with fail;go_region;go_wp2_with fail
  go_ret2
  have b:=(h _ rfl).out;exact⟨_,_,rfl,g.out _ b.1,b.2⟩
def Na{N:Nat}(o:Option (Tm N)):Prop:=∀a,o=some a->bK ⟨N,a⟩=1-> -1099511627776<=oN N a/\oN N a<=1099511627776
def vu{N:Nat}(b d:Option (Tm N)):Option (Tm (N+1)):=b.bind λa=>d.bind λc=>sQ N a c
theorem Lf{N:Nat}{a d:Option (Tm N)}(b:(a.isSome && a.all λe=>bK ⟨N,e⟩==1)=false):vu a d=none:=by
 cases a with
 | none=>rfl
 | some f=>
  simp at b;cases d with
  | none=>rfl
  | some c=>simp[vu,sQ,yz,b]
theorem Jl{N:Nat}{d a:Option (Tm N)}(b:(a.isSome && a.all λe=>bK ⟨N,e⟩==1)=false):vu d a=none:=by
 cases d with
 | none=>rfl
 | some f=>
  cases a with
  | none=>rfl
  | some c=>
   simp at b;simp[vu,sQ,yz,b]
theorem Jm{N:Nat}{b d:Option (Tm N)}{e v:Int}(i:true=(b.isSome && b.all λa=>bK ⟨N,a⟩==1))(j:true=(d.isSome && d.all λa=>bK ⟨N,a⟩==1))(k:∀a,b=some a->e=oN N a)(l:∀a,d=some a->v=oN N a)(m:Na b)(n:Na d):vu b d=(if -1099511627776<=e+v/\e+v<=1099511627776 then some (bF 1 (e+v) N)else none)/\(-1099511627776<=e/\e<=1099511627776)/\(-1099511627776<=v/\v<=1099511627776):=by
 cases b with
 | none=>simp at i
 | some f=>
  cases d with
  | none=>simp at j
  | some c=>
   have g:bK ⟨N,f⟩=1:=by simpa using i.symm
   have h:bK ⟨N,c⟩=1:=by simpa using j.symm
   rw[k f rfl,l c rfl];refine⟨?_,m f rfl g,n c rfl h⟩;simp[vu,sQ,yz,g,h,pT]
theorem iP:dh 0:=by simp[dh]
theorem kB(N:Nat)(k a:Int)(b:dh k)(c:dh a)(B:Nat)(w:World)(P:Nat->Prop):In B w (N+1) (bF k a N)/\bV P (N+1) (bF k a N):=
 ⟨⟨⟨b,c,aB _,aB _,aB _⟩,ae rfl⟩,ae rfl⟩
theorem vQ(N:Nat)(k a:Int):au (N+1) (bF k a N) (N+1) (bF k a N)=true:=cW rfl rfl
theorem jU{N:Nat}{w w':World}(a:ag w w'):jA (N+1) none w (.returned (.tuple #[.agg #[.int .i64 0,.int .i64 0,.string .empty,.slice none 0 0],.bool false])) w':=
 ⟨bF 0 0 N,false,rfl,a,(kB N 0 0 iP iP _ _ (λ_=>True)).1,(kB N 0 0 iP iP 0 w _).2,rfl,λc b=>by cases b⟩
theorem wW{N:Nat}{w w':World}(d:ag w w')(k a:Int)(b:dh k)(c:dh a):jA (N+1) (some (bF k a N)) w (.returned (.tuple #[.agg #[.int .i64 k,.int .i64 a,.string .empty,.slice none 0 0],.bool true])) w':=
 ⟨bF k a N,true,rfl,d,(kB N k a b c _ _ (λ_=>True)).1,(kB N k a b c 0 w _).2,rfl,λf e=>by obtain rfl:=aq e;exact vQ N k a⟩
theorem mB(w:World)(a b c d:Obj):ag w ((((w.alloc a).alloc b).alloc c).alloc d):=((((ak _ _).alloc (ai _) _).alloc (by simp) _).alloc (by simp;omega) _).alloc (by simp;omega) _
def mV(q:Nat)(w:World):Prop:=(w.cell? ⟨q,0,none⟩=some (.int .i64 0)/\w.cell? ⟨q,1,none⟩=some (.int .i64 0)/\w.cell? ⟨q,2,none⟩=some (.string .empty)/\w.cell? ⟨q,3,none⟩=some (.slice none 0 0))/\(w.frozen? ⟨q,0,none⟩=false/\w.frozen? ⟨q,1,none⟩=false/\w.frozen? ⟨q,2,none⟩=false/\w.frozen? ⟨q,3,none⟩=false)/\q<w.heap.size
theorem mV.below{q:Nat}{w w':World}(i:mV q w)(c:ag w w'):mV q w':=by
 obtain⟨⟨j,k,l,m⟩,⟨e,f,g,h⟩,d⟩:=i;have a:=λo=>c.cell (p:=⟨q,o,none⟩) d;have b:=λo=>c.frozen (p:=⟨q,o,none⟩) d;exact⟨⟨(a 0).trans j,(a 1).trans k,(a 2).trans l,(a 3).trans m⟩,⟨(b 0).trans e,(b 1).trans f,(b 2).trans g,(b 3).trans h⟩,aJ d c.size⟩
theorem Cd{w w':World}{s0 s1 i j k l y0 y1 y2 e:Value}{t1 t2 g h:TypeId}(a:Below ((((w.alloc (.cells #[s0,s1] t1)).alloc (.cells #[i,j,k,l] t2)).alloc (.cells #[y0,y1,y2,e] g)).alloc (.cells #[.int .i64 0,.int .i64 0,.string .empty,.slice none 0 0] h)).heap.size ((((w.alloc (.cells #[s0,s1] t1)).alloc (.cells #[i,j,k,l] t2)).alloc (.cells #[y0,y1,y2,e] g)).alloc (.cells #[.int .i64 0,.int .i64 0,.string .empty,.slice none 0 0] h)) w'):(w'.cell? ⟨w.heap.size,0,none⟩=some s0/\w'.cell? ⟨w.heap.size,1,none⟩=some s1)/\ (w'.cell? ⟨w.heap.size+1+1,0,none⟩=some y0/\w'.cell? ⟨w.heap.size+1+1,1,none⟩=some y1/\w'.cell? ⟨w.heap.size+1+1,2,none⟩=some y2/\w'.cell? ⟨w.heap.size+1+1,3,none⟩=some e)/\mV (w.heap.size+1+1+1) w':=by
 have m:=a.size;simp at m;have f:=λo=>a.cell (p:=⟨w.heap.size,o,none⟩) (by simp;omega);have b:=λo=>a.cell (p:=⟨w.heap.size+1+1,o,none⟩) (by simp;try omega);have d:=λo=>a.cell (p:=⟨w.heap.size+1+1+1,o,none⟩) (by simp);have c:=λo=>a.frozen (p:=⟨w.heap.size+1+1+1,o,none⟩) (by simp)
 exact⟨⟨(f 0).trans (by simp[go_sem]),(f 1).trans (by simp[go_sem])⟩,⟨(b 0).trans (by simp[go_sem]),(b 1).trans (by simp[go_sem]),(b 2).trans (by simp[go_sem]),(b 3).trans (by simp[go_sem])⟩,
  ⟨(d 0).trans (by simp[go_sem]),(d 1).trans (by simp[go_sem]),(d 2).trans (by simp[go_sem]),(d 3).trans (by simp[go_sem])⟩,⟨(c 0).trans (by simp[go_sem]),(c 1).trans (by simp[go_sem]),(c 2).trans (by simp[go_sem]),(c 3).trans (by simp[go_sem])⟩,by omega⟩
theorem cQ{w w':World}{q:Nat}(a:ag w w')(c:w.heap.size<=q)(v0 v1 v2 v3:Value):ag w (cE w' q 0 v0 v1 v2 v3):=
 ⟨a.os,a.tape,a.output,aw a.size (dk (bf _ _ _ _).symm),λk b=>(aR (by omega) _ _ _ _).trans (a.block k b)⟩
theorem Jo(N:Nat)(p q:Option (Tm N))(B:Hid (Na p))(C:Hid (Na q))(a:Option Addr)(c:Nat)(self:Int)(D E:Int)(F:ByteArray)(xa:Option Addr)(G xc:Nat)(y0 y1:Int)(y2:ByteArray)(ya:Option Addr)(yl yc:Nat)(w:World)(u:Hid (∀w1,ag w w1->ah 186 #[.agg #[.slice a 4 c,.int .i64 self],.agg #[.int .i64 D,.int .i64 E,.string F,.slice xa G xc]] w1 (L7 p w1)))(x:Hid (∀w1,ag w w1->ah 186 #[.agg #[.slice a 4 c,.int .i64 self],.agg #[.int .i64 y0,.int .i64 y1,.string y2,.slice ya yl yc]] w1 (L7 q w1))):ah 182 #[.agg #[.slice a 4 c,.int .i64 self],.agg #[.int .i64 D,.int .i64 E,.string F,.slice xa G xc],.agg #[.int .i64 y0,.int .i64 y1,.string y2,.slice ya yl yc]] w (jA (N+1) (vu p q) w):=by
 obtain⟨o,t⟩:∃o,o=vu p q:=⟨_,rfl⟩;rw[<-t];have l:=aj t;clear t;go_enter Tryz.func182,Tryz.ntmps182;go_wp2_with fail;refine(u.out _ (mB _ _ _ _ _)).mono ?_;rintro O V ⟨b,j,rfl,d⟩;obtain⟨⟨T,U⟩,⟨K,d1,L,M⟩,A⟩:=Cd d.out.1;have r:=aj A;have HB:Hid (ag w V):=(mB _ _ _ _ _).trans (d.out.1.mono (mB _ _ _ _ _).size);have m:Hid (j=_/\_):=d.out.2;clear u d A;cases j
 ·have e:Hid (o=none):=l.out.trans (Lf m.out.1.symm);obtain⟨⟨f,g,h,i⟩,⟨P,Q,R,S⟩,_⟩:=r.out;go_wp2_with fail;rw[e.out];exact ap (v:=.tuple #[.agg #[.int .i64 0,.int .i64 0,.string .empty,.slice none 0 0],.bool false]) (by simp[results,Tryz.results182,go_sem,f,g,h,i];rfl) rfl (jU (cQ HB.out (by omega) _ _ _ _))
 ·go_wp2_with fail;refine(x.out _ HB.out).mono ?_;rintro O W ⟨v,j,rfl,d⟩;have k:Hid (ag w W):=HB.out.trans (d.out.1.mono HB.out.size);have n:Hid (j=_/\_):=d.out.2;have H:=aj (r.out.below d.out.1);obtain⟨⟨f,g,h,i⟩,⟨P,Q,R,S⟩,_⟩:=H.out;clear x d HB T U K d1 L M r;cases j
  ·have e:Hid (o=none):=l.out.trans (Jl n.out.1.symm);go_wp2_with fail;rw[e.out];exact ap (v:=.tuple #[.agg #[.int .i64 0,.int .i64 0,.string .empty,.slice none 0 0],.bool false]) (by simp[results,Tryz.results182,go_sem,f,g,h,i];rfl) rfl (jU (cQ k.out (by omega) _ _ _ _))
  ·obtain⟨es,⟨Y,Z⟩,aa,ab⟩:=Jm m.out.1 n.out.1 m.out.2 n.out.2 B.out C.out;have s:Hid (o=if -1099511627776<=b+v/\b+v<=1099511627776 then some (bF 1 (b+v) N)else none):=l.out.trans es;have X:IntKind.i64.wrap (b+v)=b+v:=by rw[IntKind.wrap];simp[IntKind.bits,IntKind.signed];omega
   clear l m n es B C;by_cases y:b+v< -1099511627776
   ·have I:decide (b+v< -1099511627776)=true:=by simpa using y
    have e:Hid (o=none):=s.out.trans (if_neg (by omega));go_wp2_with fail;rw[e.out];exact ap (v:=.tuple #[.agg #[.int .i64 0,.int .i64 0,.string .empty,.slice none 0 0],.bool false]) (by simp[results,Tryz.results182,go_sem,f,g,h,i];rfl) rfl (jU (cQ k.out (by omega) _ _ _ _))
   ·have I:decide (b+v< -1099511627776)=false:=by simpa using y
    by_cases z:1099511627776<b+v
    ·have J:decide (1099511627776<b+v)=true:=by simpa using z
     have e:Hid (o=none):=s.out.trans (if_neg (by omega));go_wp2_with fail;rw[e.out];exact ap (v:=.tuple #[.agg #[.int .i64 0,.int .i64 0,.string .empty,.slice none 0 0],.bool false]) (by simp[results,Tryz.results182,go_sem,f,g,h,i];rfl) rfl (jU (cQ k.out (by omega) _ _ _ _))
    ·have J:decide (1099511627776<b+v)=false:=by simpa using z
     have e:Hid (o=some (bF 1 (b+v) N)):=s.out.trans (if_pos (by omega));go_wp2_with fail;rw[e.out];exact ap (v:=.tuple #[.agg #[.int .i64 1,.int .i64 (b+v),.string .empty,.slice none 0 0],.bool true]) (by simp[results,Tryz.results182,go_sem,f,g,h,i];rfl) rfl (wW (cQ k.out (by omega) _ _ _ _) 1 (b+v) (by simp[dh]) ⟨by omega,by omega⟩)
def uS{n N:Nat}(f:Tm n->Option (Tm N))(p:List (Tm n)):List (Tm N):=p.map λy=>(f y).getD (aK N 0 ())
def LF{n N:Nat}(f:Tm n->Option (Tm N))(p:List (Tm n))(k:Nat):Prop:=∀(i:Nat)(y:Tm n),i<k->p[i]?=some y->(f y).isSome=true
theorem JC{n N:Nat}{f:Tm n->Option (Tm N)}{p:List (Tm n)}{k:Nat}(c:LF f p k)(h:p.length<=k):cw f p=some (uS f p):=by
 refine vD f _ p λb e=>?_;obtain⟨g,a⟩:=cM e;have i:=(aL.1 a).1;have:=c g b (by omega) a;cases d:f b with
 | none=>rw[d]at this;cases this
 | some j=>rfl
theorem LF.next{n N:Nat}{f:Tm n->Option (Tm N)}{p:List (Tm n)}{k:Nat}{x:Tm n}(d:LF f p k)(g:p[k]?=some x)(e:true=(f x).isSome):LF f p (k+1):=by
 intro b h i a;by_cases c:b=k
 ·subst c;rw[g]at a;obtain rfl:=aq a;exact e.symm
 ·exact d b h (by omega) a
theorem Lq{n N:Nat}{f:Tm n->Option (Tm N)}{p:List (Tm n)}{k:Nat}{x:Tm n}(d:p[k]?=some x)(c:true=(f x).isSome):∃a,(uS f p)[k]?=some a/\f x=some a:=by
 cases b:f x with
 | none=>rw[b]at c;cases c
 | some a=>exact⟨a,by simp[uS,d,b],rfl⟩
theorem Gx{N:Nat}{P:List (Tm N)}{w wr:World}{g len k:Nat}{l:List (Tm N)}(j:tj N P len g k l wr)(v:P.length=len)(p:k=len)(n:ag w wr)(x:len<=8)(q:Nat)(r:w.heap.size<=q)(y:q<g)(v0 v1 v2 v3:Value):jA (N+1) (some (cR N P)) w (.returned (.tuple #[.agg #[.int .i64 4,.int .i64 0,.string .empty,.slice (some ⟨g,0,none⟩) len len],.bool true])) (cE wr q 0 v0 v1 v2 v3):=by
 obtain⟨m,c,e,f⟩:=j;subst p;rw[bw (by omega)]at f;rw[ji,mg,dY]at c;refine⟨((4,0,.empty),(some ⟨g,0,none⟩,k),l),true,?_,cQ n r _ _ _ _,?_,?_,rfl,λz t=>?_⟩
 ·simp only[dd,m]
 ·refine⟨⟨by simp[dh],by simp[dh],aB _,by simp only;omega,by unfold maxLen;simp only;omega⟩,af ⟨g,0,rfl,by rw[bf];exact c.lt.2,λh b a=>?_⟩⟩;obtain⟨i,u⟩:=e b (aC a);have o:=c.cells h ⟨N,b⟩ (by simp[a]);refine⟨dy.block (aR (by omega) _ _ _ _) ?_,?_⟩
  ·cases N with
   | zero=>exact i.elim
   | succ N=>
    rw[cN];exact o
  ·rw[bf];exact In.off (P:=λd=>g<d) (λd s=>aR (by omega) _ _ _ _) u i
 ·exact af ⟨g,0,rfl,by omega,λh b a=>(e b (aC a)).2.mono λd s=>by omega⟩
 ·obtain rfl:=aq t;exact cW rfl f
theorem JD{n N:Nat}(f:Tm n->Option (Tm N))(p:List (Tm n)):(uS f p).length=p.length:=by simp[uS]
theorem tj.grow{N:Nat}{P:List (Tm N)}{len g k:Nat}{l:List (Tm N)}{w w':World}(e:tj N P len g k l w)(a:ag w w'):tj N P len g k l w':=by
 obtain⟨f,h,b,i⟩:=e;exact⟨f,h.below a,λd c=>⟨((b d c).1.below a).mono a.size,(b d c).2⟩,i⟩
theorem mV.block{q:Nat}{w w':World}(h:mV q w)(c:w'.heap[q]?=w.heap[q]?)(n:w.heap.size<=w'.heap.size):mV q w':=by
 obtain⟨⟨i,j,k,l⟩,⟨d,e,f,g⟩,m⟩:=h;have a:=λo=>bk c o;have b:∀o,w'.frozen? ⟨q,o,none⟩=w.frozen? ⟨q,o,none⟩:=λo=>by simp[World.frozen?,c]
 exact⟨⟨(a 0).trans i,(a 1).trans j,(a 2).trans k,(a 3).trans l⟩,⟨(b 0).trans d,(b 1).trans e,(b 2).trans f,(b 3).trans g⟩,aJ m n⟩
theorem tU{w w':World}(a:w.grownBy w' none):ag w w':=⟨a.os,a.tape,a.output,a.size,λk b=>a.block k b (by simp)⟩
theorem xq{w w':World}{s0 s1:Value}{t1 t2:TypeId}(f:((w.alloc (.cells #[s0,s1] t1)).alloc (.cells #[.int .i64 0,.int .i64 0,.string .empty,.slice none 0 0] t2)).grownBy w' none):ag w w'/\(w'.cell? ⟨w.heap.size,0,none⟩=some s0/\w'.cell? ⟨w.heap.size,1,none⟩=some s1)/\mV (w.heap.size+1) w':=by
 have a:=tU f;have g:=a.size;simp at g;have d:ag w ((w.alloc (.cells #[s0,s1] t1)).alloc (.cells #[.int .i64 0,.int .i64 0,.string .empty,.slice none 0 0] t2)):=((ak _ _).alloc (ai _) _).alloc (by simp) _;have e:=λo=>a.cell (p:=⟨w.heap.size,o,none⟩) (by simp;omega);have c:=λo=>a.cell (p:=⟨w.heap.size+1,o,none⟩) (by simp);have b:=λo=>a.frozen (p:=⟨w.heap.size+1,o,none⟩) (by simp)
 exact⟨d.trans (a.mono d.size),⟨(e 0).trans (by simp[go_sem]),(e 1).trans (by simp[go_sem])⟩,
  ⟨(c 0).trans (by simp[go_sem]),(c 1).trans (by simp[go_sem]),(c 2).trans (by simp[go_sem]),(c 3).trans (by simp[go_sem])⟩,⟨(b 0).trans (by simp[go_sem]),(b 1).trans (by simp[go_sem]),(b 2).trans (by simp[go_sem]),(b 3).trans (by simp[go_sem])⟩,by omega⟩
theorem Bm(m:Nat)(b:List (Tm m))(self:Int)(n:Nat)(ih:Hid (L5 m b self n))(p:List (Tm n))(len:Nat)(W:Hid (p.length=len))(pa:Option Addr)(pc:Nat)(a:Option Addr)(c B:Nat)(w:World)(a0:len<=8)(V:Hid (fe B w n p pa))(a2:Hid (∀y∈p,av ⟨n,y⟩))(az:Hid (fe B w m b a))(H:B<=w.heap.size):ah 183 #[.agg #[.slice a 4 c,.int .i64 self],.slice pa len pc] w (jA (m+n+1) ((cw (λy=>vl m b self n y) p).map (cR (m+n))) w):=by
 obtain⟨o,T⟩:∃o,o=(cw (λy=>vl m b self n y) p).map (cR (m+n)):=⟨_,rfl⟩;rw[<-T];have ar:=aj T;clear T;obtain⟨a4,aE,aJ,aK,aL⟩:=bO fR;go_enter Tryz.func183,Tryz.ntmps183;go_wp2_with (at_make;refine ke _ rfl _ _ 28 rfl _ 30 a4 _ 4 Tryz.underlying28 aE aJ aK _ _ _ _ len rfl rfl rfl rfl (by rw[aL];omega) (by unfold maxLen;omega) (ai _) ?_;intro h aG S;have t:=aj (qk (m+n) (uS (λy=>vl m b self n y) p) len aG);have aQ:=aj (tU S);have ax:=aj (xq S);clear aG S aE aJ aK aL);have es:((w.alloc (.cells #[.slice a 4 c,.int .i64 self] 247)).alloc (.cells #[.int .i64 0,.int .i64 0,.string ⟨#[]⟩,.slice none 0 0] 30)).heap.size=w.heap.size+1+1:=by simp
 rw[es]at t;clear es aQ;obtain⟨aA,aB,D⟩:=ax.out
 have ao:Hid (ag w h/\(h.cell? ⟨w.heap.size,0,none⟩=some (.slice a 4 c)/\h.cell? ⟨w.heap.size,1,none⟩=some (.int .i64 self))/\mV (w.heap.size+1) h/\LF (λy=>vl m b self n y) p 0/\∃l,tj (m+n) (uS (λy=>vl m b self n y) p) len (w.heap.size+1+1) 0 l h):=
  ⟨aA,aB,D,λs y bn _=>by omega,[],t.out⟩
 clear ax t aA aB D;go_wp2_with fail;go_loopw [16] (λs wr=>∃k:Nat,k<=len/\s=.int .i64 k/\Hid (ag w wr/\(wr.cell? ⟨w.heap.size,0,none⟩=some (.slice a 4 c)/\wr.cell? ⟨w.heap.size,1,none⟩=some (.int .i64 self))/\mV (w.heap.size+1) wr/\LF (λy=>vl m b self n y) p k/\∃l,tj (m+n) (uS (λy=>vl m b self n y) p) len (w.heap.size+1+1) k l wr)) (λs _=>len-(intOf s).toNat)
 case atStart=>exact⟨0,by omega,rfl,ao.out⟩
 case round=>
  obtain⟨k,bo,rfl,au⟩:=hrel;clear ao;obtain⟨i,⟨Z,aa⟩,G,x,l,j⟩:Hid (ag w wr)/\(wr.cell? ⟨w.heap.size,0,none⟩=some (.slice a 4 c)/\wr.cell? ⟨w.heap.size,1,none⟩=some (.int .i64 self))/\Hid (mV (w.heap.size+1) wr)/\Hid (LF (λy=>vl m b self n y) p k)/\∃l,Hid (tj (m+n) (uS (λy=>vl m b self n y) p) len (w.heap.size+1+1) k l wr):=au.out;clear au;by_cases aF:k<len
  ·obtain⟨d,u⟩:∃d,p[k]?=some d:=⟨p[k]'(by rw[W.out];exact aF),aD _⟩;obtain⟨E,po,rfl,a1,aH⟩:∃E po,pa=some ⟨E,po,none⟩/\E<B/\∀(s:Nat)(y:Tm n),p[s]?=some y->dy w E (po+s*4) n y/\In B w n y:=by
    rcases V.out with P|P
    ·rw[P]at u;simp at u
    ·exact P
   obtain⟨I,J⟩:=aH k d u;have N:=aj u;have aT:=aj (a2.out d (aC u));replace I:=I.below (i.out.mono H) a1;replace J:=J.below (i.out.mono H);have Q:B<=wr.heap.size:=aw H i.out.size
   have F:Hid (∀h,ag wr h->ah 164 #[.agg #[.slice a 4 c,.int .i64 self],dd n d] h (jA (m+n) (vl m b self n d) h)):=
    λh g=>ih.out d a c B h (J.below (g.mono Q)) aT.out ((az.out.below (i.out.mono H)).below (g.mono Q)) (aw Q g.size)
   obtain⟨Y,U⟩:∃Y,Y=vl m b self n d:=⟨_,rfl⟩;rw[<-U]at F;have L:=aj U;clear aH u V U J;cases n with
   | zero=>exact I.elim
   | succ n=>
   obtain⟨bb,bc,bd,be⟩:=I;have A:dd (n+1) d=.agg #[.int .i64 d.1.1,.int .i64 d.1.2.1,.string d.1.2.2,.slice d.2.1.1 d.2.2.length d.2.1.2]:=rfl;rw[A]at F;clear A;generalize d.2.2.length=bs at*;have bp:(0:Int)<=(k:Int):=by omega
   have bq:(k:Int)<(len:Int):=by omega
   have br:E<wr.heap.size:=by omega
   have aI:w.heap.size<wr.heap.size:=by have:=G.out.2.2;omega
   go_wp2_with fail;refine(F.out _ ((ak _ _).alloc (ai _) _)).mono ?_;rintro bl e ⟨y,a6,rfl,q⟩;have r:Hid (ag wr e):=((ak _ _).alloc (ai _) _).trans (q.out.1.mono (by simp));have ay:Hid (ag w e):=i.out.trans (r.out.mono i.out.size);have O:=aj (G.out.below r.out);replace Z:=(am r.out _ _ aI).trans Z;replace aa:=(am r.out _ _ aI).trans aa;have A:dd (m+(n+1)) y=.agg #[.int .i64 y.1.1,.int .i64 y.1.2.1,.string y.1.2.2,.slice y.2.1.1 y.2.2.length y.2.1.2]:=rfl;rw[A];clear F bb bc bd be G A;cases a6
   ·have K:Hid (o=none):=by
      have g:vl m b self (n+1) d=none:=by
       have:=q.out.2.2.2.1;rw[<-L.out];cases Y with
       | none=>rfl
       | some ab=>cases this
      show o=none;rw[ar.out,lq _ p k d N.out g];rfl
    obtain⟨⟨ad,ae,af,al⟩,⟨aV,aW,aX,aY⟩,aN⟩:=O.out;clear q j x;go_wp2_with fail;rw[K.out];exact ap (v:=.tuple #[.agg #[.int .i64 0,.int .i64 0,.string .empty,.slice none 0 0],.bool false]) (by simp[results,Tryz.results183,go_sem,ad,ae,af,al,aN];rfl) rfl (jU ((cQ ay.out (by omega) _ _ _ _).alloc (by rw[bf];omega) _))
   ·have R:true=(vl m b self (n+1) d).isSome:=by rw[<-L.out];exact q.out.2.2.2.1
    obtain⟨ab,D,aM⟩:=Lq (f:=λy=>vl m b self (n+1) y) N.out R;have aq:=aj (x.out.next N.out R);have t:=aj (j.out.step aF ab D r.out y q.out.2.1 (q.out.2.2.1.mono λaP X=>by have:=j.out.2.1.lt.2;simp at X;omega) (q.out.2.2.2.2 ab (by rw[L.out];exact aM)));have z:=aj (j.out.2.1.below r.out);have M:Hid (ag w (iT e (w.heap.size+1+1) (k*4) (fQ (m+(n+1)) y))):=by
     have g:=ay.out;exact⟨g.os,g.tape,g.output,aw g.size (dk (bf _ _ _ _).symm),λaP X=>(aR (by omega) _ _ _ _).trans (g.block aP X)⟩
    have aS:Hid (∀o:Obj,ag w ((iT e (w.heap.size+1+1) (k*4) (fQ (m+(n+1)) y)).alloc o)/\(((iT e (w.heap.size+1+1) (k*4) (fQ (m+(n+1)) y)).alloc o).cell? ⟨w.heap.size,0,none⟩=some (.slice a 4 c)/\((iT e (w.heap.size+1+1) (k*4) (fQ (m+(n+1)) y)).alloc o).cell? ⟨w.heap.size,1,none⟩=some (.int .i64 self))/\mV (w.heap.size+1) ((iT e (w.heap.size+1+1) (k*4) (fQ (m+(n+1)) y)).alloc o)/\LF (λy=>vl m b self (n+1) y) p (k+1)/\∃l,tj (m+(n+1)) (uS (λy=>vl m b self (n+1) y) p) len (w.heap.size+1+1) (k+1) l ((iT e (w.heap.size+1+1) (k*4) (fQ (m+(n+1)) y)).alloc o)):=by
     intro o;have C:Below (iT e (w.heap.size+1+1) (k*4) (fQ (m+(n+1)) y)).heap.size (iT e (w.heap.size+1+1) (k*4) (fQ (m+(n+1)) y)) ((iT e (w.heap.size+1+1) (k*4) (fQ (m+(n+1)) y)).alloc o):=(ak _ _).alloc (ai _) _;have a3:(iT e (w.heap.size+1+1) (k*4) (fQ (m+(n+1)) y)).heap.size=e.heap.size:=bf _ _ _ _;have aZ:=z.out.lt.2;refine⟨M.out.trans (C.mono M.out.size),⟨?_,?_⟩,?_,aq.out,l++ [y],t.out.grow C⟩
     ·exact(am C _ _ (by omega)).trans ((bk (aR (by omega) _ _ _ _) _).trans Z)
     ·exact(am C _ _ (by omega)).trans ((bk (aR (by omega) _ _ _ _) _).trans aa)
     ·refine mV.below ?_ C;exact O.out.block (aR (by omega) _ _ _ _) (dk a3.symm)
    obtain⟨an,aO⟩:∃an,(l.map (λd=>(⟨m+(n+1),d⟩:An))++List.replicate (len-k) zA)[k]?=some an:=⟨_,aD (by simp[j.out.1];omega)⟩;obtain⟨bg,bh,bi,bj⟩:=z.out.cells k an aO;have bm:=λa5=>z.out.free a5;have aZ:w.heap.size+1+1<e.heap.size:=z.out.lt.2;clear q j x r i t aq M z aO O D aM R;go_wp2_with fail;go_roundw
    case rel=>exact⟨k+1,by omega,by go_num,aS.out _⟩
    case measure=>simp[intOf];omega
  ·obtain rfl:k=len:=by omega
   have K:Hid (o=some (cR (m+n) (uS (λy=>vl m b self n y) p))):=by
    show o=_;rw[ar.out,JC x.out (by rw[W.out];exact ai _)];rfl
   have aU:=λa7 a8 a9 ba=>aj (Gx j.out (by rw[JD];exact W.out) rfl i.out a0 (w.heap.size+1) (by omega) (by omega) a7 a8 a9 ba);obtain⟨⟨ad,ae,af,al⟩,⟨aV,aW,aX,aY⟩,aN⟩:=G.out;clear x j i V az;go_wp2_with fail;rw[K.out];exact ap (v:=.tuple #[.agg #[.int .i64 4,.int .i64 0,.string .empty,.slice (some ⟨w.heap.size+1+1,0,none⟩) k k],.bool true]) (by simp[results,Tryz.results183,go_sem,ad,ae,af,al];rfl) rfl (aU _ _ _ _).out
theorem Ao{P:Nat->Prop}:(N n:Nat)->n<=N->(x:Tm n)->bV P n x->bV P N (aK N n x)
 | _,0,_,_,k=>k.elim
 | 0,n+1,h,_,_=>by omega
 | N+1,n+1,h,x,k=>by
  rcases k with k|⟨b,o,e,d,k⟩
  ·exact ae (by simp[aK,k])
  ·refine af ⟨b,o,e,d,λi y a=>?_⟩;simp only[aK,dj]at a;obtain⟨c,f,rfl⟩:=b8.1 a;exact Ao N n (by omega) c (k i c f)
theorem Ix(N n:Nat)(x:Tm (n+1)):dd (N+1) (aK (N+1) (n+1) x)=dd (n+1) x:=by simp[dd,aK]
theorem Iw{N n:Nat}(d:n<=N){x y:Tm (n+1)}(a:av ⟨n+1,x⟩)(b:au (n+1) y (n+1) x=true):au (N+1) (aK (N+1) (n+1) y) (N+1) (aK (N+1) (n+1) x)=true:=by
 have c:av ⟨n+1,y⟩:=aG.2 (by rw[iW _ _ _ _ b];exact aG.1 a);exact bM _ _ _ _ _ _ (eU (N+1) (n+1) (by omega) y c) (bM _ _ _ _ _ _ b (dF _ _ _ _ (eU (N+1) (n+1) (by omega) x a)))
theorem GF{N n:Nat}(b:n<=N){x y:Tm (n+1)}{w w':World}(f:av ⟨n+1,x⟩)(c:ag w w')(d:In w'.heap.size w' (n+1) y)(e:bV (λq=>w.heap.size<=q) (n+1) y)(g:au (n+1) y (n+1) x=true)(r:Bool):jA (N+1) (if r then some (aK (N+1) (n+1) x)else none) w (.returned (.tuple #[.agg #[.int .i64 y.1.1,.int .i64 y.1.2.1,.string y.1.2.2,.slice y.2.1.1 y.2.2.length y.2.1.2],.bool r])) w':=by
 refine⟨aK (N+1) (n+1) y,r,by rw[Ix];rfl,c,nW _ _ (by omega) _ _ _ d,Ao _ _ (by omega) _ e,by cases r<;>rfl,λh a=>?_⟩;cases r with
 | false=>cases a
 | true=>
  obtain rfl:=aq a;exact Iw b f g
theorem uU{N:Nat}{o:Option (Tm (N+1))}{w w1 w2:World}{y:Tm (N+1)}{r:Bool}{q:Nat}(c:ag w w1)(k:w.heap.size<=q)(m:q<w1.heap.size)(e:ag w1 w2/\In w2.heap.size w2 (N+1) y/\bV (λq=>w1.heap.size<=q) (N+1) y/\r=o.isSome/\∀d,o=some d->au (N+1) y (N+1) d=true)(v0 v1 v2 v3:Value):jA (N+1) o w (.returned (.tuple #[.agg #[.int .i64 y.1.1,.int .i64 y.1.2.1,.string y.1.2.2,.slice y.2.1.1 y.2.2.length y.2.1.2],.bool r])) (cE w2 q 0 v0 v1 v2 v3):=by
 obtain⟨f,g,a,h,i⟩:=e;have l:=c.size;refine⟨y,r,rfl,cQ (c.trans (f.mono l)) k _ _ _ _,?_,a.mono λb j=>by omega,h,i⟩;rw[bf];exact In.off (P:=λb=>w1.heap.size<=b) (λb j=>aR (by omega) _ _ _ _) a g
theorem uV{N n:Nat}(h:n<=N){x y:Tm (n+1)}{w w1 w2 g:World}{q:Nat}(p:av ⟨n+1,x⟩)(e:ag w w1)(o:w.heap.size<=q)(s:q<w1.heap.size)(k:ag w1 w2/\In w2.heap.size w2 (n+1) y/\bV (λq=>w1.heap.size<=q) (n+1) y/\au (n+1) y (n+1) x=true)(a:ag w2 g)(r:Bool)(v0 v1 v2 v3:Value):jA (N+1) (if r then some (aK (N+1) (n+1) x)else none) w (.returned (.tuple #[.agg #[.int .i64 y.1.1,.int .i64 y.1.2.1,.string y.1.2.2,.slice y.2.1.1 y.2.2.length y.2.1.2],.bool r])) (cE g q 0 v0 v1 v2 v3):=by
 obtain⟨c,i,d,j⟩:=k;have f:=e.size;have l:=(e.trans (c.mono f)).trans (a.mono (aw f c.size));refine GF h p (cQ l o _ _ _ _) ?_ (d.mono λb m=>by omega) j r;rw[bf];exact In.off (P:=λb=>w1.heap.size<=b) (λb m=>aR (by omega) _ _ _ _) d ((i.below a).mono a.size)
theorem yI{w:World}{s0 s1:Value}{t1 t2:TypeId}:ag w ((w.alloc (.cells #[s0,s1] t1)).alloc (.cells #[.int .i64 0,.int .i64 0,.string .empty,.slice none 0 0] t2))/\mV (w.heap.size+1) ((w.alloc (.cells #[s0,s1] t1)).alloc (.cells #[.int .i64 0,.int .i64 0,.string .empty,.slice none 0 0] t2)):=by
 have a:=xq (w:=w) (s0:=s0) (s1:=s1) (t1:=t1) (t2:=t2) (w':=(w.alloc (.cells #[s0,s1] t1)).alloc (.cells #[.int .i64 0,.int .i64 0,.string .empty,.slice none 0 0] t2)) (fZ _ _);exact⟨a.1,a.2.2⟩
theorem yJ{w w1:World}{s0 s1:Value}{t1 t2:TypeId}(a:w1=(w.alloc (.cells #[s0,s1] t1)).alloc (.cells #[.int .i64 0,.int .i64 0,.string .empty,.slice none 0 0] t2)):ag w w1/\mV (w.heap.size+1) w1/\w1.cell? ⟨w.heap.size,0,none⟩=some s0/\w1.cell? ⟨w.heap.size,1,none⟩=some s1:=by
 subst a;have a:=xq (w:=w) (s0:=s0) (s1:=s1) (t1:=t1) (t2:=t2) (w':=(w.alloc (.cells #[s0,s1] t1)).alloc (.cells #[.int .i64 0,.int .i64 0,.string .empty,.slice none 0 0] t2)) (fZ _ _);exact⟨a.1,a.2.2,a.2.1.1,a.2.1.2⟩
theorem Ls(N:Nat)(o:Option (Tm (N+1)))(a:Option Addr)(c:Nat)(self:Int)(j:dh self)(pa:Option Addr)(len:Nat)(pc:Nat)(w:World)(d:Hid (∀w1,ag w w1->ah 181 #[.slice pa len pc,.string oZ,.int .i64 0] w1 λe w'=>e=.returned (.bool true)/\w'=w1))(i:Hid (o=some (bF 3 self N))):ah 175 #[.agg #[.slice a 4 c,.int .i64 self],.slice pa len pc] w (jA (N+1) o w):=by
 go_enter Tryz.func175,Tryz.ntmps175;go_wp2_with fail;refine(d.out _ yI.1).mono ?_;rintro e w1 ⟨rfl,g⟩;obtain⟨f,b,x,y⟩:=yJ g;have HB:=aj f;have h:=aj b;have t:w.heap.size<w1.heap.size:=by have:=b.2.2;omega
 clear g f b d;obtain⟨⟨k,l,m,n⟩,⟨p,q,r,s⟩,u⟩:=h.out;go_wp2_with fail;rw[i.out];exact ap (v:=.tuple #[.agg #[.int .i64 3,.int .i64 self,.string .empty,.slice none 0 0],.bool true]) (by simp[results,Tryz.results175,go_sem,k,l,m,n];rfl) rfl (wW (cQ HB.out (by omega) _ _ _ _) 3 self (by simp[dh]) j)
theorem MW(N:Nat)(o:Option (Tm (N+1)))(a:Option Addr)(c:Nat)(self:Int)(b po:Nat)(j k:Int)(l:ByteArray)(xa:Option Addr)(m xc:Nat)(y0 y1:Int)(y2:ByteArray)(ya:Option Addr)(yl yc:Nat)(pc:Nat)(w:World)(p:Hid (∀w1,ag w w1->ah 181 #[.slice (some ⟨b,po,none⟩) 3 pc,.string oZ,.int .i64 0] w1 λe w'=>e=.returned (.bool false)/\w'=w1))(D:Hid (∀w1,ag w w1->ah 181 #[.slice (some ⟨b,po,none⟩) 3 pc,.string uW,.int .i64 2] w1 λe w'=>e=.returned (.bool true)/\w'=w1))(g:b<w.heap.size)(G:w.cell? ⟨b,po+4,none⟩=some (.int .i64 j)/\w.cell? ⟨b,po+4+1,none⟩=some (.int .i64 k)/\w.cell? ⟨b,po+4+2,none⟩=some (.string l)/\w.cell? ⟨b,po+4+3,none⟩=some (.slice xa m xc))(H:w.cell? ⟨b,po+8,none⟩=some (.int .i64 y0)/\w.cell? ⟨b,po+8+1,none⟩=some (.int .i64 y1)/\w.cell? ⟨b,po+8+2,none⟩=some (.string y2)/\w.cell? ⟨b,po+8+3,none⟩=some (.slice ya yl yc))(E:Hid (∀w1,ag w w1->ah 182 #[.agg #[.slice a 4 c,.int .i64 self],.agg #[.int .i64 j,.int .i64 k,.string l,.slice xa m xc],.agg #[.int .i64 y0,.int .i64 y1,.string y2,.slice ya yl yc]] w1 (jA (N+1) o w1))):ah 175 #[.agg #[.slice a 4 c,.int .i64 self],.slice (some ⟨b,po,none⟩) 3 pc] w (jA (N+1) o w):=by
 go_enter Tryz.func175,Tryz.ntmps175;go_wp2_with fail;refine(p.out _ yI.1).mono ?_;rintro e w1 ⟨rfl,r⟩;obtain⟨q,i,ae,af⟩:=yJ r;have HB:=aj q;have n:=aj i;have ab:w.heap.size<w1.heap.size:=by have:=i.2.2;omega
 clear r q i p;have f:=am HB.out;obtain⟨s,t,u,x⟩:=G;obtain⟨y,z,A,B⟩:=H;replace s:=(f _ _ g).trans s;replace t:=(f _ _ g).trans t;replace u:=(f _ _ g).trans u;replace x:=(f _ _ g).trans x;replace y:=(f _ _ g).trans y;replace z:=(f _ _ g).trans z;replace A:=(f _ _ g).trans A;replace B:=(f _ _ g).trans B;clear f;go_wp2_with fail;refine(D.out _ HB.out).mono ?_;rintro e P ⟨rfl,rfl⟩;have aa:b<P.heap.size:=aJ g HB.out.size;have Y:¬(w.heap.size+1=b):=by omega
 have Z:¬(b=w.heap.size+1):=by omega
 have I:∀d:Tm (N+1),dd (N+1) d=.agg #[.int .i64 d.1.1,.int .i64 d.1.2.1,.string d.1.2.2,.slice d.2.1.1 d.2.2.length d.2.1.2]:=λ_=>rfl;go_wp2_with fail
 go_region_held3 (λw'=>w'.cell? ⟨w.heap.size,0,none⟩=some (.slice a 4 c)/\w'.cell? ⟨w.heap.size,1,none⟩=some (.int .i64 self)/\w'.cell? ⟨b,po+4,none⟩=some (.int .i64 j)/\w'.cell? ⟨b,po+4+1,none⟩=some (.int .i64 k)/\w'.cell? ⟨b,po+4+2,none⟩=some (.string l)/\w'.cell? ⟨b,po+4+3,none⟩=some (.slice xa m xc)
     /\w'.cell? ⟨b,po+8,none⟩=some (.int .i64 y0)/\w'.cell? ⟨b,po+8+1,none⟩=some (.int .i64 y1)/\w'.cell? ⟨b,po+8+2,none⟩=some (.string y2)/\w'.cell? ⟨b,po+8+3,none⟩=some (.slice ya yl yc))
  (go_keep) ((go_at_call 182;refine(E.out _ HB.out.drew).mono ?_;rintro e ai ⟨d,J,rfl,h⟩;rw[I];have f:=am (cB h.out.1);have C:=aj (n.out.below (cB h.out.1));obtain⟨⟨Q,R,S,T⟩,⟨U,V,W,X⟩,ad⟩:=C.out))
 have F:=λK L M O=>aj (uU HB.out.drew (jh _ 1) n.out.2.2 h.out K L M O);clear h f;go_wp2_with fail;exact ap (v:=.tuple #[.agg #[.int .i64 d.1.1,.int .i64 d.1.2.1,.string d.1.2.2,.slice d.2.1.1 d.2.2.length d.2.1.2],.bool J]) (by simp[results,Tryz.results175,go_sem,Q,R,S,T]) rfl (F _ _ _ _).out
theorem MX(N:Nat)(o:Option (Tm (N+1)))(a:Option Addr)(c:Nat)(self:Int)(b po:Nat)(n:Nat)(L:n<=N)(x:Tm (n+1))(cl:Bool)(pc:Nat)(w:World)(l:Hid (∀w1,ag w w1->ah 181 #[.slice (some ⟨b,po,none⟩) 2 pc,.string oZ,.int .i64 0] w1 λe w'=>e=.returned (.bool false)/\w'=w1))(C:Hid (∀w1,ag w w1->ah 181 #[.slice (some ⟨b,po,none⟩) 2 pc,.string uW,.int .i64 2] w1 λe w'=>e=.returned (.bool false)/\w'=w1))(D:Hid (∀w1,ag w w1->ah 181 #[.slice (some ⟨b,po,none⟩) 2 pc,.string Bt,.int .i64 1] w1 λe w'=>e=.returned (.bool true)/\w'=w1))(f:b<w.heap.size)(M:dy w b (po+4) (n+1) x)(H:Hid (av ⟨n+1,x⟩))(G:Hid (∀w1,ag w w1->ah 54 #[.agg #[.int .i64 x.1.1,.int .i64 x.1.2.1,.string x.1.2.2,.slice x.2.1.1 x.2.2.length x.2.1.2]] w1 λe w'=>∃y:Tm (n+1),e=.returned (dd (n+1) y)/\Hid (ag w1 w'/\In w'.heap.size w' (n+1) y/\bV (λq=>w1.heap.size<=q) (n+1) y/\au (n+1) y (n+1) x=true)))(E:Hid (∀w1,ag w w1->ah 52 #[.agg #[.int .i64 x.1.1,.int .i64 x.1.2.1,.string x.1.2.2,.slice x.2.1.1 x.2.2.length x.2.1.2]] w1 λe w'=>e=.returned (.bool cl)/\ag w1 w'))(F:Hid (o=if cl then some (aK (N+1) (n+1) x)else none)):ah 175 #[.agg #[.slice a 4 c,.int .i64 self],.slice (some ⟨b,po,none⟩) 2 pc] w (jA (N+1) o w):=by
 go_enter Tryz.func175,Tryz.ntmps175;go_wp2_with fail;refine(l.out _ yI.1).mono ?_;rintro e w1 ⟨rfl,p⟩;obtain⟨m,i,al,an⟩:=yJ p;have HB:=aj m;have k:=aj i;have ai:w.heap.size<w1.heap.size:=by have:=i.2.2;omega
 clear p m i l;have d:=am HB.out;obtain⟨t,u,z,A⟩:=M;replace t:=(d _ _ f).trans t;replace u:=(d _ _ f).trans u;replace z:=(d _ _ f).trans z;replace A:=(d _ _ f).trans A;clear d;generalize x.2.2.length=S at*;go_wp2_with fail;refine(C.out _ HB.out).mono ?_;rintro e r ⟨rfl,rfl⟩;go_wp2_with fail;refine(D.out _ HB.out).mono ?_;rintro e r ⟨rfl,rfl⟩;have ae:b<r.heap.size:=aJ f HB.out.size;have ab:¬(w.heap.size+1=b):=by omega
 have ad:¬(b=w.heap.size+1):=by omega
 have J:∀y:Tm (n+1),dd (n+1) y=.agg #[.int .i64 y.1.1,.int .i64 y.1.2.1,.string y.1.2.2,.slice y.2.1.1 y.2.2.length y.2.1.2]:=λ_=>rfl;go_wp2_with fail
 go_region_held3 (λw'=>w'.cell? ⟨b,po+4,none⟩=some (.int .i64 x.1.1)/\w'.cell? ⟨b,po+4+1,none⟩=some (.int .i64 x.1.2.1)/\w'.cell? ⟨b,po+4+2,none⟩=some (.string x.1.2.2)/\w'.cell? ⟨b,po+4+3,none⟩=some (.slice x.2.1.1 S x.2.1.2))
  (go_keep) ((first|(go_at_call 54;refine(G.out _ HB.out.drew).mono ?_;rintro e s ⟨y,rfl,g⟩;rw[J];have d:=am (cB g.out.1);have j:Hid (ag w s):=(HB.out.drew).trans (g.out.1.mono HB.out.size))|(go_at_call 52;refine(E.out _ j.out).mono ?_;rintro e ao ⟨rfl,h⟩;have K:=am h;have af:b<s.heap.size:=aJ f j.out.size;have B:=aj ((k.out.below (cB g.out.1)).below h);obtain⟨⟨T,U,V,W⟩,⟨X,Y,Z,aa⟩,ak⟩:=B.out)))
 have I:=λO P Q R=>aj (uV L H.out HB.out.drew (jh _ 1) k.out.2.2 g.out h cl O P Q R);clear g d K h;go_wp2_with fail;rw[F.out];exact ap (v:=.tuple #[.agg #[.int .i64 y.1.1,.int .i64 y.1.2.1,.string y.1.2.2,.slice y.2.1.1 y.2.2.length y.2.1.2],.bool cl]) (by simp[results,Tryz.results175,go_sem,T,U,V,W]) rfl (I _ _ _ _).out
theorem Lr(N:Nat)(o:Option (Tm (N+1)))(a:Option Addr)(c:Nat)(self:Int)(pa:Option Addr)(len:Nat)(pc:Nat)(w:World)(h:Hid (∀w1,ag w w1->ah 181 #[.slice pa len pc,.string oZ,.int .i64 0] w1 λe w'=>e=.returned (.bool false)/\w'=w1))(i:Hid (∀w1,ag w w1->ah 181 #[.slice pa len pc,.string uW,.int .i64 2] w1 λe w'=>e=.returned (.bool false)/\w'=w1))(j:Hid (∀w1,ag w w1->ah 181 #[.slice pa len pc,.string Bt,.int .i64 1] w1 λe w'=>e=.returned (.bool false)/\w'=w1))(k:Hid (∀w1,ag w w1->ah 183 #[.agg #[.slice a 4 c,.int .i64 self],.slice pa len pc] w1 (jA (N+1) o w1))):ah 175 #[.agg #[.slice a 4 c,.int .i64 self],.slice pa len pc] w (jA (N+1) o w):=by
 go_enter Tryz.func175,Tryz.ntmps175;go_wp2_with fail;refine(h.out _ yI.1).mono ?_;rintro e w1 ⟨rfl,n⟩;obtain⟨m,f,J,K⟩:=yJ n;have HB:=aj m;have g:=aj f;have H:w.heap.size<w1.heap.size:=by have:=f.2.2;omega
 clear n m f h;go_wp2_with fail;refine(i.out _ HB.out).mono ?_;rintro e y ⟨rfl,rfl⟩;go_wp2_with fail;refine(j.out _ HB.out).mono ?_;rintro e y ⟨rfl,rfl⟩;go_wp2_with fail;refine(k.out _ HB.out).mono ?_;rintro e L ⟨b,r,rfl,d⟩;have p:=aj (g.out.below d.out.1);have q:=λs t u x=>aj (uU HB.out (jh _ 1) g.out.2.2 d.out s t u x);obtain⟨⟨z,A,B,C⟩,⟨D,E,F,G⟩,I⟩:=p.out;have l:dd (N+1) b=.agg #[.int .i64 b.1.1,.int .i64 b.1.2.1,.string b.1.2.2,.slice b.2.1.1 b.2.2.length b.2.1.2]:=rfl;rw[l];clear d k i j l;go_wp2_with fail;exact ap (v:=.tuple #[.agg #[.int .i64 b.1.1,.int .i64 b.1.2.1,.string b.1.2.2,.slice b.2.1.1 b.2.2.length b.2.1.2],.bool r]) (by simp[results,Tryz.results175,go_sem,z,A,B,C]) rfl (q _ _ _ _).out
end Go.Proofs.YtckamaoibonjcaaGreat
