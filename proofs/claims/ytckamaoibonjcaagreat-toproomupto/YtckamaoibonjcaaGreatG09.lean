/- What is proved here: plain facts and contracts that the claimed theorem stands on. No condition but those that each names. -/
import Derived.Test.YtckamaoibonjcaaGreatG08
namespace Go.Proofs.YtckamaoibonjcaaGreat
open Go.RowKit
set_option maxRecDepth 100000
set_option maxHeartbeats 1000000
def pn:ByteArray:=⟨#[115,101,108,102]⟩
def vm:ByteArray:=⟨#[97,100,100]⟩
def BI:ByteArray:=⟨#[112,117,116]⟩
def oX(N:Nat)(x:Tm N):Int:=(gd N x).1.2.1
def tj(n:Nat)(p:List (Tm n))(s:ByteArray)(k:Nat):Bool:=
 decide (p.length=1+k) && match p[0]? with
  | some a=>bO ⟨n,a⟩==2 && (gd n a).1.2.2.toList==s.toList
  | none=>false
def cE{c d:Type}(f:c->Option d):List c->Option (List d)
 | []=>some []
 | a::p=>(f a).bind λb=>(cE f p).map λl=>b::l
def bK(k a:Int)(N:Nat):Tm (N+1):=((k,a,.empty),(none,0),[])
def yP(N:Nat)(a c:Tm N):Bool:=bO ⟨N,a⟩==1 && bO ⟨N,c⟩==1 && qd (oX N a+oX N c) (-1099511627776) 1099511627776
def s9(N:Nat)(a c:Tm N):Option (Tm (N+1)):=if yP N a c then some (bK 1 (oX N a+oX N c) N)else none
def cX(N:Nat)(l:List (Tm N)):Tm (N+1):=((4,0,.empty),(none,0),l)
def vl(m:Nat)(b:List (Tm m))(self:Int):(n:Nat)->Tm n->Option (Tm (m+n))
 | 0,_=>none
 | n+1,x=>
  if x.1.1=5 then (b[x.1.2.1.toNat]?).bind λy=>if bO ⟨m,y⟩=6 then none else some (aO (m+n+1) m y)
  else if x.1.1=6 then none
  else if x.1.1=4 then
   if tj n x.2.2 pn 0 then some (bK 3 self (m+n))
   else if tj n x.2.2 vm 2 then
    (x.2.2[1]?).bind λa=>(x.2.2[2]?).bind λc=>(vl m b self n a).bind λa=>(vl m b self n c).bind λc=>s9 (m+n) a c
   else if tj n x.2.2 BI 1 then
    (x.2.2[1]?).bind λa=>if aJ n a then some (aO (m+n+1) n a)else none
   else (cE (λy=>vl m b self n y) x.2.2).map (cX (m+n))
  else some (aO (m+n+1) (n+1) x)
theorem qp{e g:Type}(f:e->Option g):(p:List e)->(l:List g)->cE f p=some l->l.length=p.length/\∀(i:Nat)(a:e)(y:g),p[i]?=some a->l[i]?=some y->f a=some y
 | [],l,b=>by simp[cE]at b;subst b;exact⟨rfl,λi a y c=>by simp at c⟩
 | a::p,l,b=>by
  simp only[cE]at b;obtain⟨y,n,b⟩:=br.1 b;obtain⟨r,m,rfl⟩:=cd.1 b;obtain⟨j,k⟩:=qp f p r m;refine⟨by simp[j],λi h o c d=>?_⟩;cases i with
  | zero=>
   simp at c d;subst c d;exact n
  | succ i=>exact k i h o (by simpa using c) (by simpa using d)
theorem lG{c d:Type}(f:c->Option d):(p:List c)->(i:Nat)->(a:c)->p[i]?=some a->f a=none->cE f p=none
 | [],i,a,h,_=>by simp at h
 | b::p,0,a,h,k=>by
  simp at h;subst h;simp[cE,k]
 | b::p,i+1,a,h,k=>by
  simp only[cE];rw[lG f p i a (by simpa using h) k];simp
theorem vR{b c:Type}(f:b->Option c)(g:b->c):(p:List b)->(∀a∈p,f a=some (g a))->cE f p=some (p.map g)
 | [],_=>rfl
 | a::p,h=>by simp[cE,h a (by simp),vR f g p λx d=>h x (bI _ d)]
theorem xW{b c d:Type}(f:b->List d)(g:c->List d)(K:Nat):(p:List b)->(l:List c)->l.length=p.length->(∀(i:Nat)(a:b)(y:c),p[i]?=some a->l[i]?=some y->(g y).length<=K*(f a).length)->(l.flatMap g).length<=K*(p.flatMap f).length
 | [],[],_,_=>by simp
 | [],_::_,h,_=>by simp at h
 | _::_,[],h,_=>by simp at h
 | a::p,y::l,h,k=>by
  have m:=k 0 a y rfl rfl;have n:=xW f g K p l (by simpa using h) λi a y e j=>k (i+1) a y (by simpa using e) (by simpa using j);simp only[bB,bj];rw[Nat.mul_add];omega
theorem oq:(N n:Nat)->n<=N->(x:Tm n)->(aw N (aO N n x)).length<=(aw n x).length
 | 0,0,_,_=>ak _
 | _+1,0,_,_=>by simp[aO,aw]
 | 0,n+1,h,_=>by omega
 | N+1,n+1,h,x=>by
  have:=xW (λy=>aw n y) (λy=>aw N y) 1 x.2.2 (x.2.2.map λy=>aO N n y) (by simp) λi a y c b=>by
   simp[c]at b;subst b;rw[Nat.one_mul];exact oq N n (by omega) a
  simp only[aw,aO,aZ];omega
theorem uv{a K:Nat}(b:1<=K):a<=K*a:=Nat.le_mul_of_pos_left a b
theorem AF{d e:Type}(f:d->List e)(p:List d)(a:d)(c:a∈p):(f a).length<=(p.flatMap f).length:=by
 induction p with
 | nil=>cases c
 | cons b p ih=>
  simp only[bB,bj];rcases ch.1 c with rfl|c
  ·omega
  ·have:=ih c;omega
theorem BG(m:Nat)(b:List (Tm m))(self:Int)(K:Nat)(f:1<=K)(q:∀y∈b,(aw m y).length<=K):(n:Nat)->(x:Tm n)->(o:Tm (m+n))->vl m b self n x=some o->(aw (m+n) o).length<=K*(aw n x).length
 | 0,_,_,d=>by simp[vl]at d
 | n+1,x,o,d=>by
  have one:∀k r,(aw (m+n+1) (bK k r (m+n))).length<=K*(aw (n+1) x).length:=λk r=>by
   have:1*1<=K*(aw (n+1) x).length:=Nat.mul_le_mul f (by simp[aw]);simpa [aw,bK]using this
  have up:∀(y:Tm n),y∈x.2.2->K*(aw n y).length<=K*(aw (n+1) x).length:=λy j=>by
   have:=AF (λy=>aw n y) x.2.2 y j;exact Nat.mul_le_mul_left K (by simp only[aw,aZ]at this ⊢;omega)
  simp only[vl]at d;split at d
  ·obtain⟨y,j,d⟩:=br.1 d;split at d
   ·cases d
   ·obtain rfl:=au d;have e:=oq (m+n+1) m (by omega) y;have g:=q y (aG j);have h:K*1<=K*(aw (n+1) x).length:=Nat.mul_le_mul_left K (by simp[aw]);show (aw (m+n+1) _).length<=_;omega
  ·split at d
   ·cases d
   ·split at d
    ·split at d
     ·obtain rfl:=au d;exact one _ _
     ·split at d
      ·obtain⟨a,p,d⟩:=br.1 d;obtain⟨c,A,d⟩:=br.1 d;obtain⟨v,z,d⟩:=br.1 d;obtain⟨w,B,d⟩:=br.1 d;unfold s9 at d;split at d
       ·obtain rfl:=au d;exact one _ _
       ·cases d
      ·split at d
       ·obtain⟨a,p,d⟩:=br.1 d;split at d
        ·obtain rfl:=au d;have e:=oq (m+n+1) n (by omega) a;have g:=up a (aG p);have h:=uv (a:=(aw n a).length) f;show (aw (m+n+1) _).length<=_;omega
        ·cases d
       ·obtain⟨l,u,rfl⟩:=cd.1 d;obtain⟨e,g⟩:=qp _ _ _ u;have h:=xW (λy=>aw n y) (λy=>aw (m+n) y) K x.2.2 l e λi a y s t=>BG m b self K f q n a y (g i a y s t);show (aw (m+n+1) (cX (m+n) l)).length<=_;simp only[aw,cX,aZ];rw[Nat.mul_add];omega
    ·obtain rfl:=au d;have e:=oq (m+n+1) (n+1) (by omega) x;have h:=uv (a:=(aw (n+1) x).length) f;show (aw (m+n+1) _).length<=_;omega
theorem j8:(n:Nat)->(x:Tm n)->(m:Nat)->(y:Tm m)->ax n x m y=true->(aw n x).length=(aw m y).length
 | 0,_,_,_,h=>by simp[ax]at h
 | _+1,_,0,_,h=>by simp[ax]at h
 | n+1,x,m+1,y,h=>by
  obtain⟨f,e⟩:=bD h;have key:∀(p:List (Tm n))(q:List (Tm m)),aC (λa b=>ax n a m b) p q=true->(p.flatMap λy=>aw n y).length=(q.flatMap λy=>aw m y).length:=by
   intro p
   induction p with
   | nil=>intro q d;cases q with
    | nil=>rfl
    | cons _ _=>simp[aC]at d
   | cons a p ih=>intro q d;cases q with
    | nil=>simp[aC]at d
    | cons c q=>
     simp only[aC,aA]at d;simp only[bB,bj];rw[j8 n a m c d.1,ih q d.2]
  simp only[aw,aZ];rw[key _ _ e]
theorem bw{n:Nat}{x:Tm n}:bu n x=0 ↔ bV n x=true/\fh n x<=12/\sz n x<=200:=by
 rw[<-gf];unfold vJ;constructor
 ·intro a;split at a
  ·rename_i c;split at a
   ·cases a
   ·rename_i f;exact⟨c,by omega,by omega⟩
  ·cases a
 ·rintro ⟨b,d,e⟩;rw[if_pos b,if_neg (by omega)]
theorem Ep:(n:Nat)->(x:Tm n)->az ⟨n,x⟩->((aw n x).length:Int)<=sz n x+1
 | 0,_,h=>(dd h).elim
 | n+1,x,h=>by
  have c:=eq (bA n x) (h (bA n x) (by simp[aw,bA]));by_cases a:x.1.1=4
  ·have key:∀l:List (Tm n),(∀y∈l,az ⟨n,y⟩)->((l.flatMap λy=>aw n y).length:Int)<=(l.map λy=>1+sz n y).sum:=by
     intro l
     induction l with
     | nil=>intro _;simp
     | cons y l ih=>
      intro b;have g:=Ep n y (b y (by simp));have i:=ih λf e=>b f (bI _ e);simp only[bB,bj,aK,bv];omega
   have:=key x.2.2 λy d=>aT n x y h d;simp only[aw,aZ,sz,if_pos a];omega
  ·have:x.2.2=[]:=bH (c.2.2.2.2 a);simp[aw,this,sz,a]
theorem nz{n:Nat}{x:Tm n}(a:bu n x=0):(aw n x).length<=201:=by
 obtain⟨b,_,c⟩:=bw.1 a;have:=Ep n x (aL.2 b);omega
theorem gU{m:Nat}{b:List (Tm m)}(a:fY m b=true):b.length=4/\∀y∈b,bu m y=0/\az ⟨m,y⟩/\(bO ⟨m,y⟩=6\/aJ m y=true):=by
 unfold fY at a;simp only[aA,bU,b9]at a;refine⟨a.1,λy c=>?_⟩;have:=a.2 y c;unfold AR at this;simp only[aA,ic,cm]at this;refine⟨this.1,aL.2 (bw.1 this.1).1,?_⟩;rw[eY];exact this.2
theorem pJ{N n:Nat}(e:n<=N)(x:Tm n)(c:az ⟨n,x⟩):az ⟨N,aO N n x⟩:=by
 cases n with
 | zero=>exact(dd c).elim
 | succ n=>
  obtain⟨a,rfl⟩:∃a,N=a+1:=⟨N-1,by omega⟩;intro d b;simp only at b;rw[mP a n (by omega) x]at b;exact c d b
theorem uR{N:Nat}{x:Tm (N+1)}(c:cv (bA N x)=true)(k:∀y∈x.2.2,az ⟨N,y⟩):az ⟨N+1,x⟩:=by
 intro b a;simp only[aw,ch,jn]at a;rcases a with rfl|⟨y,d,a⟩
 ·exact c
 ·exact k y d b a
theorem vi(m:Nat)(b:List (Tm m))(self:Int)(k:1<=self/\self<=99)(i:∀y∈b,az ⟨m,y⟩):(n:Nat)->(x:Tm n)->az ⟨n,x⟩->(g:Tm (m+n))->vl m b self n x=some g->az ⟨m+n,g⟩
 | 0,_,_,_,d=>by simp[vl]at d
 | n+1,x,hr,g,d=>by
  have r:=hr (bA n x) (by simp[aw,bA]);have B:x.2.2.length<=8:=lO (bA n x) r;simp only[vl]at d;split at d
  ·obtain⟨y,e,d⟩:=br.1 d;split at d
   ·cases d
   ·obtain rfl:=au d;exact pJ (N:=m+n+1) (by omega) y (i y (aG e))
  ·split at d
   ·cases d
   ·split at d
    ·split at d
     ·obtain rfl:=au d;exact uR (N:=m+n) (by simp[cv,bK,bA,qd,k]) (by intro y e;cases e)
     ·split at d
      ·obtain⟨a,h,d⟩:=br.1 d;obtain⟨c,z,d⟩:=br.1 d;obtain⟨u,w,d⟩:=br.1 d;obtain⟨v,A,d⟩:=br.1 d;unfold s9 at d;split at d
       ·rename_i o;obtain rfl:=au d;simp only[yP,aA]at o;exact uR (N:=m+n) (by simp[cv,bK,bA,o.2]) (by intro y e;cases e)
       ·cases d
      ·split at d
       ·obtain⟨a,h,d⟩:=br.1 d;split at d
        ·obtain rfl:=au d;exact pJ (N:=m+n+1) (by omega) a (aT n x a hr (aG h))
        ·cases d
       ·obtain⟨l,t,rfl⟩:=cd.1 d;obtain⟨p,q⟩:=qp _ _ _ t;refine uR (N:=m+n) ?_ λy e=>?_
        ·have:(l.length:Int)<=8:=by omega
         simp[cv,cX,bA,this]
        ·obtain⟨f,j⟩:=cO e;have s:f<x.2.2.length:=by rw[<-p];exact(aR.1 j).1
         exact vi m b self k i n x.2.2[f] (aT n x _ hr (jl _)) y (q f _ y (aH s) j)
    ·obtain rfl:=au d;exact pJ (N:=m+n+1) (by omega) x hr
def EA(a:Int)(bd:Bool)(self:Int):Int:=if a=0 then if bd then if 1<=self/\self<=99 then 0 else 1 else 5 else a
def nu{N:Nat}(E:Int)(o:Option (Tm N)):Option (Tm N):=if E=0 then o.bind λa=>if bu N a=0 then some a else none else none
def Ez{N:Nat}(E:Int)(o:Option (Tm N)):Int:=if E=0 then if o.isSome then 0 else 7 else E
theorem Ek{n:Nat}{p:List (Tm n)}{s:ByteArray}{k:Nat}(a:p.length≠1+k):tj n p s k=false:=by simp[tj,a]
theorem MT{n:Nat}{p:List (Tm (n+1))}{s:ByteArray}{k:Nat}{y:Tm (n+1)}(a:p.length=1+k)(b:p[0]?=some y):tj (n+1) p s k=(y.1.1==2 && y.1.2.2.toList==s.toList):=by
 simp[tj,a,b,bO,gd,bA]
theorem FC(a:Option Addr)(len pc:Nat)(s:ByteArray)(k:Nat)(w:World)(f:k<=8)(c:len≠1+k):am 181 #[ae a len pc,af s,ab k] w λe w'=>e=.returned (.bool false)/\w'=w:=by
 have d:((len:Int)==1+(k:Int))=false:=by simp;omega
 have b:IntKind.i64.wrap (1+(k:Int))=1+(k:Int):=by rw[IntKind.wrap];simp[IntKind.bits,IntKind.signed];omega
 go_enter Tryz.func181,Tryz.ntmps181;go_wp2_with fail
 go_ret
 exact⟨rfl,rfl⟩
theorem FB(a po len pc:Nat)(s:ByteArray)(k:Nat)(b:Int)(c:ByteArray)(w:World)(l:len<=8)(j:k<=8)(g:len=1+k)(c0:w.cell? ⟨a,po,none⟩=some (ab b))(d:w.cell? ⟨a,po+2,none⟩=some (af c)):am 181 #[ae (some ⟨a,po,none⟩) len pc,af s,ab k] w λe w'=>e=.returned (.bool (b==2 && c.toList==s.toList))/\w'=w:=by
 have h:((len:Int)==1+(k:Int))=true:=by simp;omega
 have f:IntKind.i64.wrap (1+(k:Int))=1+(k:Int):=by rw[IntKind.wrap];simp[IntKind.bits,IntKind.signed];omega
 have i:(0:Int)<(len:Int):=by omega
 cases hx:b==2
 ·go_enter Tryz.func181,Tryz.ntmps181;go_wp2_with fail
  go_ret
  exact⟨rfl,rfl⟩
 ·go_enter Tryz.func181,Tryz.ntmps181;go_wp2_with fail
  go_ret
  exact⟨rfl,rfl⟩
theorem CD(n:Nat)(p:List (Tm n))(a:Option Addr)(pc B:Nat)(s:ByteArray)(k:Nat)(w:World)(d:fp B w n p a)(m:p.length<=8)(h:k<=8):am 181 #[ae a p.length pc,af s,ab k] w λe w'=>e=.returned (.bool (tj n p s k))/\w'=w:=by
 by_cases c:p.length=1+k
 ·rcases d with d|⟨b,o,rfl,u,d⟩
  ·rw[d]at c;simp at c;omega
  ·obtain⟨f,i⟩:∃f,p[0]?=some f:=⟨p[0]'(by omega),aH _⟩;obtain⟨g,t⟩:=d 0 f i;cases n with
   | zero=>exact g.elim
   | succ n=>
    rw[MT c i];obtain⟨j,q,l,r⟩:=g;exact FB b o p.length pc s k f.1.1 f.1.2.2 w m h c (by simpa using j) (by simpa using l)
 ·rw[Ek c];exact FC a p.length pc s k w h c
def jJ(N:Nat)(o:Option (Tm N))(w:World)(e:Ending)(w':World):Prop:=
 ∃(a:Tm N)(b:Bool),e=.returned (.tuple #[dj N a,.bool b])/\Hid (aj w w'/\In w'.heap.size w' N a/\bZ (λd=>w.heap.size<=d) N a/\b=o.isSome/\∀c,o=some c->ax N a N c=true)
def Mq(m:Nat)(b:List (Tm m))(self:Int)(n:Nat):Prop:=∀(x:Tm n)(a:Option Addr)(c B:Nat)(w:World),In B w n x->az ⟨n,x⟩->fp B w m b a->B<=w.heap.size->
 am 164 #[.agg #[ae a 4 c,ab self],dj n x] w (jJ (m+n) (vl m b self n x) w)
def Ms{N:Nat}(o:Option (Tm N))(w:World)(e:Ending)(w':World):Prop:=
 ∃(c:Int)(b:Bool),e=.returned (.tuple #[ab c,.bool b])/\Hid (aj w w'/\b=(o.isSome && o.all λa=>bO ⟨N,a⟩==1)/\∀a,o=some a->c=oX N a)
theorem CS{N:Nat}{o:Option (Tm (N+1))}{w w1 w2:World}{y:Tm (N+1)}{r:Bool}(f:aj w w2)(d:aj w1 w2/\In w2.heap.size w2 (N+1) y/\bZ (λq=>w1.heap.size<=q) (N+1) y/\r=o.isSome/\∀a,o=some a->ax (N+1) y (N+1) a=true)(c:Bool)(g:c=(r && y.1.1==1)):aj w w2/\c=(o.isSome && o.all λa=>bO ⟨N+1,a⟩==1)/\∀a,o=some a->y.1.2.1=oX (N+1) a:=by
 obtain⟨_,_,_,e,b⟩:=d;refine⟨f,?_,λa h=>?_⟩
 ·rw[g,e];cases ho:o with
  | none=>rfl
  | some a=>
   have:=(bD (b a ho)).1;simp[bO,this]
 ·have:=(bD (b a h)).1;simp[oX,gd,bA,this]
theorem GS{w w':World}{a b:Obj}(d:Below ((w.alloc a).alloc b).heap.size ((w.alloc a).alloc b) w'):aj w w':=by
 have c:aj w ((w.alloc a).alloc b):=((ap _ _).alloc (ak _) _).alloc (by simp) _;exact c.trans (d.mono c.size)
theorem sE(N:Nat)(o:Option (Tm (N+1)))(a:Option Addr)(c:Nat)(self:Int)(k l:Int)(m:ByteArray)(xa:Option Addr)(n xc:Nat)(w:World)(i:Hid (∀w1,aj w w1->am 164 #[.agg #[ae a 4 c,ab self],.agg #[ab k,ab l,af m,ae xa n xc]] w1 (jJ (N+1) o w1))):am 186 #[.agg #[ae a 4 c,ab self],.agg #[ab k,ab l,af m,ae xa n xc]] w (Ms o w):=by
 go_enter Tryz.func186,Tryz.ntmps186;go_wp2_with fail;refine(i.out _ (((ap _ _).alloc (ak _) _).alloc (by simp) _)).mono ?_;rintro s f ⟨d,q,rfl,e⟩;have HB:Hid (aj w f):=GS e.out.1;have j:dj (N+1) d=.agg #[ab d.1.1,ab d.1.2.1,af d.1.2.2,ae d.2.1.1 d.2.2.length d.2.1.2]:=rfl;rw[j];clear j i;have h:=λr p=>ao (CS HB.out e.out r p);clear HB e;have g:Hid (∀o:Obj,aj w f->aj w (f.alloc o).drew):=λo b=>(b.alloc b.size o).drew;cases q
 ·go_wp2_with fail;go_region;go_wp2_with fail
  go_ret2
  have b:=(h false rfl).out;exact⟨_,_,rfl,g.out _ b.1,b.2⟩
 ·go_wp2_with fail;go_region;go_wp2_with fail
  go_ret2
  have b:=(h _ rfl).out;exact⟨_,_,rfl,g.out _ b.1,b.2⟩
def Nz{N:Nat}(o:Option (Tm N)):Prop:=∀a,o=some a->bO ⟨N,a⟩=1-> -1099511627776<=oX N a/\oX N a<=1099511627776
def vI{N:Nat}(b d:Option (Tm N)):Option (Tm (N+1)):=b.bind λa=>d.bind λc=>s9 N a c
theorem Ly{N:Nat}{a d:Option (Tm N)}(b:(a.isSome && a.all λe=>bO ⟨N,e⟩==1)=false):vI a d=none:=by
 cases a with
 | none=>rfl
 | some f=>
  simp at b;cases d with
  | none=>rfl
  | some c=>simp[vI,s9,yP,b]
theorem JD{N:Nat}{d a:Option (Tm N)}(b:(a.isSome && a.all λe=>bO ⟨N,e⟩==1)=false):vI d a=none:=by
 cases d with
 | none=>rfl
 | some f=>
  cases a with
  | none=>rfl
  | some c=>
   simp at b;simp[vI,s9,yP,b]
theorem JE{N:Nat}{b d:Option (Tm N)}{e v:Int}(i:true=(b.isSome && b.all λa=>bO ⟨N,a⟩==1))(j:true=(d.isSome && d.all λa=>bO ⟨N,a⟩==1))(k:∀a,b=some a->e=oX N a)(l:∀a,d=some a->v=oX N a)(m:Nz b)(n:Nz d):vI b d=(if -1099511627776<=e+v/\e+v<=1099511627776 then some (bK 1 (e+v) N)else none)/\(-1099511627776<=e/\e<=1099511627776)/\(-1099511627776<=v/\v<=1099511627776):=by
 cases b with
 | none=>simp at i
 | some f=>
  cases d with
  | none=>simp at j
  | some c=>
   have g:bO ⟨N,f⟩=1:=by simpa using i.symm
   have h:bO ⟨N,c⟩=1:=by simpa using j.symm
   rw[k f rfl,l c rfl];refine⟨?_,m f rfl g,n c rfl h⟩;simp[vI,s9,yP,g,h,qd]
theorem iY:dn 0:=by simp[dn]
theorem kL(N:Nat)(k a:Int)(b:dn k)(c:dn a)(B:Nat)(w:World)(P:Nat->Prop):In B w (N+1) (bK k a N)/\bZ P (N+1) (bK k a N):=
 ⟨⟨⟨b,c,aE _,aE _,aE _⟩,ah rfl⟩,ah rfl⟩
theorem wh(N:Nat)(k a:Int):ax (N+1) (bK k a N) (N+1) (bK k a N)=true:=da rfl rfl
theorem ke{N:Nat}{w w':World}(a:aj w w'):jJ (N+1) none w (.returned (.tuple #[.agg #[ab 0,ab 0,af .empty,ae none 0 0],.bool false])) w':=
 ⟨bK 0 0 N,false,rfl,a,(kL N 0 0 iY iY _ _ (λ_=>True)).1,(kL N 0 0 iY iY 0 w _).2,rfl,λc b=>by cases b⟩
theorem xp{N:Nat}{w w':World}(d:aj w w')(k a:Int)(b:dn k)(c:dn a):jJ (N+1) (some (bK k a N)) w (.returned (.tuple #[.agg #[ab k,ab a,af .empty,ae none 0 0],.bool true])) w':=
 ⟨bK k a N,true,rfl,d,(kL N k a b c _ _ (λ_=>True)).1,(kL N k a b c 0 w _).2,rfl,λf e=>by obtain rfl:=au e;exact wh N k a⟩
theorem mL(w:World)(a b c d:Obj):aj w ((((w.alloc a).alloc b).alloc c).alloc d):=((((ap _ _).alloc (ak _) _).alloc (by simp) _).alloc (by simp;omega) _).alloc (by simp;omega) _
def np(q:Nat)(w:World):Prop:=(w.cell? ⟨q,0,none⟩=some (ab 0)/\w.cell? ⟨q,1,none⟩=some (ab 0)/\w.cell? ⟨q,2,none⟩=some (af .empty)/\w.cell? ⟨q,3,none⟩=some (ae none 0 0))/\(w.frozen? ⟨q,0,none⟩=false/\w.frozen? ⟨q,1,none⟩=false/\w.frozen? ⟨q,2,none⟩=false/\w.frozen? ⟨q,3,none⟩=false)/\q<w.heap.size
theorem np.below{q:Nat}{w w':World}(i:np q w)(c:aj w w'):np q w':=by
 obtain⟨⟨j,k,l,m⟩,⟨e,f,g,h⟩,d⟩:=i;have a:=λo=>c.cell (p:=⟨q,o,none⟩) d;have b:=λo=>c.frozen (p:=⟨q,o,none⟩) d;exact⟨⟨(a 0).trans j,(a 1).trans k,(a 2).trans l,(a 3).trans m⟩,⟨(b 0).trans e,(b 1).trans f,(b 2).trans g,(b 3).trans h⟩,aN d c.size⟩
theorem Cr{w w':World}{s0 s1 i j k l y0 y1 y2 e:Value}{t1 t2 g h:TypeId}(a:Below ((((w.alloc (.cells #[s0,s1] t1)).alloc (.cells #[i,j,k,l] t2)).alloc (.cells #[y0,y1,y2,e] g)).alloc (.cells #[ab 0,ab 0,af .empty,ae none 0 0] h)).heap.size ((((w.alloc (.cells #[s0,s1] t1)).alloc (.cells #[i,j,k,l] t2)).alloc (.cells #[y0,y1,y2,e] g)).alloc (.cells #[ab 0,ab 0,af .empty,ae none 0 0] h)) w'):(w'.cell? ⟨w.heap.size,0,none⟩=some s0/\w'.cell? ⟨w.heap.size,1,none⟩=some s1)/\ (w'.cell? ⟨w.heap.size+1+1,0,none⟩=some y0/\w'.cell? ⟨w.heap.size+1+1,1,none⟩=some y1/\w'.cell? ⟨w.heap.size+1+1,2,none⟩=some y2/\w'.cell? ⟨w.heap.size+1+1,3,none⟩=some e)/\np (w.heap.size+1+1+1) w':=by
 have m:=a.size;simp at m;have f:=λo=>a.cell (p:=⟨w.heap.size,o,none⟩) (by simp;omega);have b:=λo=>a.cell (p:=⟨w.heap.size+1+1,o,none⟩) (by simp;try omega);have d:=λo=>a.cell (p:=⟨w.heap.size+1+1+1,o,none⟩) (by simp);have c:=λo=>a.frozen (p:=⟨w.heap.size+1+1+1,o,none⟩) (by simp)
 exact⟨⟨(f 0).trans (by simp[go_sem]),(f 1).trans (by simp[go_sem])⟩,⟨(b 0).trans (by simp[go_sem]),(b 1).trans (by simp[go_sem]),(b 2).trans (by simp[go_sem]),(b 3).trans (by simp[go_sem])⟩,
  ⟨(d 0).trans (by simp[go_sem]),(d 1).trans (by simp[go_sem]),(d 2).trans (by simp[go_sem]),(d 3).trans (by simp[go_sem])⟩,⟨(c 0).trans (by simp[go_sem]),(c 1).trans (by simp[go_sem]),(c 2).trans (by simp[go_sem]),(c 3).trans (by simp[go_sem])⟩,by omega⟩
theorem cW{w w':World}{q:Nat}(a:aj w w')(c:w.heap.size<=q)(v0 v1 v2 v3:Value):aj w (cJ w' q 0 v0 v1 v2 v3):=
 ⟨a.os,a.tape,a.output,ay a.size (dt (bm _ _ _ _).symm),λk b=>(aV (by omega) _ _ _ _).trans (a.block k b)⟩
theorem JG(N:Nat)(p q:Option (Tm N))(B:Hid (Nz p))(C:Hid (Nz q))(a:Option Addr)(c:Nat)(self:Int)(D E:Int)(F:ByteArray)(xa:Option Addr)(G xc:Nat)(y0 y1:Int)(y2:ByteArray)(ya:Option Addr)(yl yc:Nat)(w:World)(u:Hid (∀w1,aj w w1->am 186 #[.agg #[ae a 4 c,ab self],.agg #[ab D,ab E,af F,ae xa G xc]] w1 (Ms p w1)))(x:Hid (∀w1,aj w w1->am 186 #[.agg #[ae a 4 c,ab self],.agg #[ab y0,ab y1,af y2,ae ya yl yc]] w1 (Ms q w1))):am 182 #[.agg #[ae a 4 c,ab self],.agg #[ab D,ab E,af F,ae xa G xc],.agg #[ab y0,ab y1,af y2,ae ya yl yc]] w (jJ (N+1) (vI p q) w):=by
 obtain⟨o,t⟩:∃o,o=vI p q:=⟨_,rfl⟩;rw[<-t];have l:=ao t;clear t;go_enter Tryz.func182,Tryz.ntmps182;go_wp2_with fail;refine(u.out _ (mL _ _ _ _ _)).mono ?_;rintro O V ⟨b,j,rfl,d⟩;obtain⟨⟨T,U⟩,⟨K,d1,L,M⟩,A⟩:=Cr d.out.1;have r:=ao A;have HB:Hid (aj w V):=(mL _ _ _ _ _).trans (d.out.1.mono (mL _ _ _ _ _).size);have m:Hid (j=_/\_):=d.out.2;clear u d A;cases j
 ·have e:Hid (o=none):=l.out.trans (Ly m.out.1.symm);obtain⟨⟨f,g,h,i⟩,⟨P,Q,R,S⟩,_⟩:=r.out;go_wp2_with fail;rw[e.out];exact av (v:=.tuple #[.agg #[ab 0,ab 0,af .empty,ae none 0 0],.bool false]) (by simp[results,Tryz.results182,go_sem,f,g,h,i];rfl) rfl (ke (cW HB.out (by omega) _ _ _ _))
 ·go_wp2_with fail;refine(x.out _ HB.out).mono ?_;rintro O W ⟨v,j,rfl,d⟩;have k:Hid (aj w W):=HB.out.trans (d.out.1.mono HB.out.size);have n:Hid (j=_/\_):=d.out.2;have H:=ao (r.out.below d.out.1);obtain⟨⟨f,g,h,i⟩,⟨P,Q,R,S⟩,_⟩:=H.out;clear x d HB T U K d1 L M r;cases j
  ·have e:Hid (o=none):=l.out.trans (JD n.out.1.symm);go_wp2_with fail;rw[e.out];exact av (v:=.tuple #[.agg #[ab 0,ab 0,af .empty,ae none 0 0],.bool false]) (by simp[results,Tryz.results182,go_sem,f,g,h,i];rfl) rfl (ke (cW k.out (by omega) _ _ _ _))
  ·obtain⟨es,⟨Y,Z⟩,aa,ad⟩:=JE m.out.1 n.out.1 m.out.2 n.out.2 B.out C.out;have s:Hid (o=if -1099511627776<=b+v/\b+v<=1099511627776 then some (bK 1 (b+v) N)else none):=l.out.trans es;have X:IntKind.i64.wrap (b+v)=b+v:=by rw[IntKind.wrap];simp[IntKind.bits,IntKind.signed];omega
   clear l m n es B C;by_cases y:b+v< -1099511627776
   ·have I:decide (b+v< -1099511627776)=true:=by simpa using y
    have e:Hid (o=none):=s.out.trans (if_neg (by omega));go_wp2_with fail;rw[e.out];exact av (v:=.tuple #[.agg #[ab 0,ab 0,af .empty,ae none 0 0],.bool false]) (by simp[results,Tryz.results182,go_sem,f,g,h,i];rfl) rfl (ke (cW k.out (by omega) _ _ _ _))
   ·have I:decide (b+v< -1099511627776)=false:=by simpa using y
    by_cases z:1099511627776<b+v
    ·have J:decide (1099511627776<b+v)=true:=by simpa using z
     have e:Hid (o=none):=s.out.trans (if_neg (by omega));go_wp2_with fail;rw[e.out];exact av (v:=.tuple #[.agg #[ab 0,ab 0,af .empty,ae none 0 0],.bool false]) (by simp[results,Tryz.results182,go_sem,f,g,h,i];rfl) rfl (ke (cW k.out (by omega) _ _ _ _))
    ·have J:decide (1099511627776<b+v)=false:=by simpa using z
     have e:Hid (o=some (bK 1 (b+v) N)):=s.out.trans (if_pos (by omega));go_wp2_with fail;rw[e.out];exact av (v:=.tuple #[.agg #[ab 1,ab (b+v),af .empty,ae none 0 0],.bool true]) (by simp[results,Tryz.results182,go_sem,f,g,h,i];rfl) rfl (xp (cW k.out (by omega) _ _ _ _) 1 (b+v) (by simp[dn]) ⟨by omega,by omega⟩)
def vh{n N:Nat}(f:Tm n->Option (Tm N))(p:List (Tm n)):List (Tm N):=p.map λy=>(f y).getD (aO N 0 ())
def LZ{n N:Nat}(f:Tm n->Option (Tm N))(p:List (Tm n))(k:Nat):Prop:=∀(i:Nat)(y:Tm n),i<k->p[i]?=some y->(f y).isSome=true
theorem JU{n N:Nat}{f:Tm n->Option (Tm N)}{p:List (Tm n)}{k:Nat}(c:LZ f p k)(h:p.length<=k):cE f p=some (vh f p):=by
 refine vR f _ p λb e=>?_;obtain⟨g,a⟩:=cO e;have i:=(aR.1 a).1;have:=c g b (by omega) a;cases d:f b with
 | none=>rw[d]at this;cases this
 | some j=>rfl
theorem LZ.next{n N:Nat}{f:Tm n->Option (Tm N)}{p:List (Tm n)}{k:Nat}{x:Tm n}(d:LZ f p k)(g:p[k]?=some x)(e:true=(f x).isSome):LZ f p (k+1):=by
 intro b h i a;by_cases c:b=k
 ·subst c;rw[g]at a;obtain rfl:=au a;exact e.symm
 ·exact d b h (by omega) a
theorem LJ{n N:Nat}{f:Tm n->Option (Tm N)}{p:List (Tm n)}{k:Nat}{x:Tm n}(d:p[k]?=some x)(c:true=(f x).isSome):∃a,(vh f p)[k]?=some a/\f x=some a:=by
 cases b:f x with
 | none=>rw[b]at c;cases c
 | some a=>exact⟨a,by simp[vh,d,b],rfl⟩
theorem GQ{N:Nat}{P:List (Tm N)}{w wr:World}{g len k:Nat}{l:List (Tm N)}(j:tB N P len g k l wr)(v:P.length=len)(p:k=len)(n:aj w wr)(x:len<=8)(q:Nat)(r:w.heap.size<=q)(y:q<g)(v0 v1 v2 v3:Value):jJ (N+1) (some (cX N P)) w (.returned (.tuple #[.agg #[ab 4,ab 0,af .empty,ae (some ⟨g,0,none⟩) len len],.bool true])) (cJ wr q 0 v0 v1 v2 v3):=by
 obtain⟨m,c,e,f⟩:=j;subst p;rw[bC (by omega)]at f;rw[js,mw,eh]at c;refine⟨((4,0,.empty),(some ⟨g,0,none⟩,k),l),true,?_,cW n r _ _ _ _,?_,?_,rfl,λz t=>?_⟩
 ·simp only[dj,m]
 ·refine⟨⟨by simp[dn],by simp[dn],aE _,by simp only;omega,by unfold maxLen;simp only;omega⟩,ai ⟨g,0,rfl,by rw[bm];exact c.lt.2,λh b a=>?_⟩⟩;obtain⟨i,u⟩:=e b (aG a);have o:=c.cells h ⟨N,b⟩ (by simp[a]);refine⟨dE.block (aV (by omega) _ _ _ _) ?_,?_⟩
  ·cases N with
   | zero=>exact i.elim
   | succ N=>
    rw[cT];exact o
  ·rw[bm];exact In.off (P:=λd=>g<d) (λd s=>aV (by omega) _ _ _ _) u i
 ·exact ai ⟨g,0,rfl,by omega,λh b a=>(e b (aG a)).2.mono λd s=>by omega⟩
 ·obtain rfl:=au t;exact da rfl f
theorem JV{n N:Nat}(f:Tm n->Option (Tm N))(p:List (Tm n)):(vh f p).length=p.length:=by simp[vh]
theorem tB.grow{N:Nat}{P:List (Tm N)}{len g k:Nat}{l:List (Tm N)}{w w':World}(e:tB N P len g k l w)(a:aj w w'):tB N P len g k l w':=by
 obtain⟨f,h,b,i⟩:=e;exact⟨f,h.below a,λd c=>⟨((b d c).1.below a).mono a.size,(b d c).2⟩,i⟩
theorem np.block{q:Nat}{w w':World}(h:np q w)(c:w'.heap[q]?=w.heap[q]?)(n:w.heap.size<=w'.heap.size):np q w':=by
 obtain⟨⟨i,j,k,l⟩,⟨d,e,f,g⟩,m⟩:=h;have a:=λo=>bt c o;have b:∀o,w'.frozen? ⟨q,o,none⟩=w.frozen? ⟨q,o,none⟩:=λo=>by simp[World.frozen?,c]
 exact⟨⟨(a 0).trans i,(a 1).trans j,(a 2).trans k,(a 3).trans l⟩,⟨(b 0).trans d,(b 1).trans e,(b 2).trans f,(b 3).trans g⟩,aN m n⟩
theorem uh{w w':World}(a:w.grownBy w' none):aj w w':=⟨a.os,a.tape,a.output,a.size,λk b=>a.block k b (by simp)⟩
theorem xH{w w':World}{s0 s1:Value}{t1 t2:TypeId}(f:((w.alloc (.cells #[s0,s1] t1)).alloc (.cells #[ab 0,ab 0,af .empty,ae none 0 0] t2)).grownBy w' none):aj w w'/\(w'.cell? ⟨w.heap.size,0,none⟩=some s0/\w'.cell? ⟨w.heap.size,1,none⟩=some s1)/\np (w.heap.size+1) w':=by
 have a:=uh f;have g:=a.size;simp at g;have d:aj w ((w.alloc (.cells #[s0,s1] t1)).alloc (.cells #[ab 0,ab 0,af .empty,ae none 0 0] t2)):=((ap _ _).alloc (ak _) _).alloc (by simp) _;have e:=λo=>a.cell (p:=⟨w.heap.size,o,none⟩) (by simp;omega);have c:=λo=>a.cell (p:=⟨w.heap.size+1,o,none⟩) (by simp);have b:=λo=>a.frozen (p:=⟨w.heap.size+1,o,none⟩) (by simp)
 exact⟨d.trans (a.mono d.size),⟨(e 0).trans (by simp[go_sem]),(e 1).trans (by simp[go_sem])⟩,
  ⟨(c 0).trans (by simp[go_sem]),(c 1).trans (by simp[go_sem]),(c 2).trans (by simp[go_sem]),(c 3).trans (by simp[go_sem])⟩,⟨(b 0).trans (by simp[go_sem]),(b 1).trans (by simp[go_sem]),(b 2).trans (by simp[go_sem]),(b 3).trans (by simp[go_sem])⟩,by omega⟩
theorem BC(m:Nat)(b:List (Tm m))(self:Int)(n:Nat)(ih:Hid (Mq m b self n))(p:List (Tm n))(len:Nat)(W:Hid (p.length=len))(pa:Option Addr)(pc:Nat)(a:Option Addr)(c B:Nat)(w:World)(a3:len<=8)(V:Hid (fp B w n p pa))(a5:Hid (∀y∈p,az ⟨n,y⟩))(aC:Hid (fp B w m b a))(H:B<=w.heap.size):am 183 #[.agg #[ae a 4 c,ab self],ae pa len pc] w (jJ (m+n+1) ((cE (λy=>vl m b self n y) p).map (cX (m+n))) w):=by
 obtain⟨o,T⟩:∃o,o=(cE (λy=>vl m b self n y) p).map (cX (m+n)):=⟨_,rfl⟩;rw[<-T];have aw:=ao T;clear T;obtain⟨a7,aF,aM,aN,aO⟩:=bS ge;go_enter Tryz.func183,Tryz.ntmps183;go_wp2_with (at_make;refine ky _ rfl _ _ 28 rfl _ 30 a7 _ 4 Tryz.underlying28 aF aM aN _ _ _ _ len rfl rfl rfl rfl (by rw[aO];omega) (by unfold maxLen;omega) (ak _) ?_;intro h aJ S;have t:=ao (qw (m+n) (vh (λy=>vl m b self n y) p) len aJ);have aT:=ao (uh S);have aA:=ao (xH S);clear aJ S aF aM aN aO);have es:((w.alloc (.cells #[ae a 4 c,ab self] 247)).alloc (.cells #[ab 0,ab 0,af ⟨#[]⟩,ae none 0 0] 30)).heap.size=w.heap.size+1+1:=by simp
 rw[es]at t;clear es aT;obtain⟨aD,aE,D⟩:=aA.out
 have ar:Hid (aj w h/\(h.cell? ⟨w.heap.size,0,none⟩=some (ae a 4 c)/\h.cell? ⟨w.heap.size,1,none⟩=some (ab self))/\np (w.heap.size+1) h/\LZ (λy=>vl m b self n y) p 0/\∃l,tB (m+n) (vh (λy=>vl m b self n y) p) len (w.heap.size+1+1) 0 l h):=
  ⟨aD,aE,D,λs y bp _=>by omega,[],t.out⟩
 clear aA t aD aE D;go_wp2_with fail;go_loopw [16] (λs wr=>∃k:Nat,k<=len/\s=ab k/\Hid (aj w wr/\(wr.cell? ⟨w.heap.size,0,none⟩=some (ae a 4 c)/\wr.cell? ⟨w.heap.size,1,none⟩=some (ab self))/\np (w.heap.size+1) wr/\LZ (λy=>vl m b self n y) p k/\∃l,tB (m+n) (vh (λy=>vl m b self n y) p) len (w.heap.size+1+1) k l wr)) (λs _=>len-(intOf s).toNat)
 case atStart=>exact⟨0,by omega,rfl,ar.out⟩
 case round=>
  obtain⟨k,bq,rfl,ax⟩:=hrel;clear ar;obtain⟨i,⟨Z,aa⟩,G,x,l,j⟩:Hid (aj w wr)/\(wr.cell? ⟨w.heap.size,0,none⟩=some (ae a 4 c)/\wr.cell? ⟨w.heap.size,1,none⟩=some (ab self))/\Hid (np (w.heap.size+1) wr)/\Hid (LZ (λy=>vl m b self n y) p k)/\∃l,Hid (tB (m+n) (vh (λy=>vl m b self n y) p) len (w.heap.size+1+1) k l wr):=ax.out;clear ax;by_cases aI:k<len
  ·obtain⟨d,u⟩:∃d,p[k]?=some d:=⟨p[k]'(by rw[W.out];exact aI),aH _⟩;obtain⟨E,po,rfl,a4,aK⟩:∃E po,pa=some ⟨E,po,none⟩/\E<B/\∀(s:Nat)(y:Tm n),p[s]?=some y->dE w E (po+s*4) n y/\In B w n y:=by
    rcases V.out with P|P
    ·rw[P]at u;simp at u
    ·exact P
   obtain⟨I,J⟩:=aK k d u;have N:=ao u;have aW:=ao (a5.out d (aG u));replace I:=I.below (i.out.mono H) a4;replace J:=J.below (i.out.mono H);have Q:B<=wr.heap.size:=ay H i.out.size
   have F:Hid (∀h,aj wr h->am 164 #[.agg #[ae a 4 c,ab self],dj n d] h (jJ (m+n) (vl m b self n d) h)):=
    λh g=>ih.out d a c B h (J.below (g.mono Q)) aW.out ((aC.out.below (i.out.mono H)).below (g.mono Q)) (ay Q g.size)
   obtain⟨Y,U⟩:∃Y,Y=vl m b self n d:=⟨_,rfl⟩;rw[<-U]at F;have L:=ao U;clear aK u V U J;cases n with
   | zero=>exact I.elim
   | succ n=>
   obtain⟨be,bf,bg,bh⟩:=I;have A:dj (n+1) d=.agg #[ab d.1.1,ab d.1.2.1,af d.1.2.2,ae d.2.1.1 d.2.2.length d.2.1.2]:=rfl;rw[A]at F;clear A;generalize d.2.2.length=bv at*;have br:(0:Int)<=(k:Int):=by omega
   have bs:(k:Int)<(len:Int):=by omega
   have bu:E<wr.heap.size:=by omega
   have aL:w.heap.size<wr.heap.size:=by have:=G.out.2.2;omega
   go_wp2_with fail;refine(F.out _ ((ap _ _).alloc (ak _) _)).mono ?_;rintro bn e ⟨y,a9,rfl,q⟩;have r:Hid (aj wr e):=((ap _ _).alloc (ak _) _).trans (q.out.1.mono (by simp));have aB:Hid (aj w e):=i.out.trans (r.out.mono i.out.size);have O:=ao (G.out.below r.out);replace Z:=(aq r.out _ _ aL).trans Z;replace aa:=(aq r.out _ _ aL).trans aa;have A:dj (m+(n+1)) y=.agg #[ab y.1.1,ab y.1.2.1,af y.1.2.2,ae y.2.1.1 y.2.2.length y.2.1.2]:=rfl;rw[A];clear F be bf bg bh G A;cases a9
   ·have K:Hid (o=none):=by
      have g:vl m b self (n+1) d=none:=by
       have:=q.out.2.2.2.1;rw[<-L.out];cases Y with
       | none=>rfl
       | some ad=>cases this
      show o=none;rw[aw.out,lG _ p k d N.out g];rfl
    obtain⟨⟨ag,ah,ai,al⟩,⟨aY,aZ,a0,a1⟩,aQ⟩:=O.out;clear q j x;go_wp2_with fail;rw[K.out];exact av (v:=.tuple #[.agg #[ab 0,ab 0,af .empty,ae none 0 0],.bool false]) (by simp[results,Tryz.results183,go_sem,ag,ah,ai,al,aQ];rfl) rfl (ke ((cW aB.out (by omega) _ _ _ _).alloc (by rw[bm];omega) _))
   ·have R:true=(vl m b self (n+1) d).isSome:=by rw[<-L.out];exact q.out.2.2.2.1
    obtain⟨ad,D,aP⟩:=LJ (f:=λy=>vl m b self (n+1) y) N.out R;have au:=ao (x.out.next N.out R);have t:=ao (j.out.step aI ad D r.out y q.out.2.1 (q.out.2.2.1.mono λaS X=>by have:=j.out.2.1.lt.2;simp at X;omega) (q.out.2.2.2.2 ad (by rw[L.out];exact aP)));have z:=ao (j.out.2.1.below r.out);have M:Hid (aj w (jc e (w.heap.size+1+1) (k*4) (gd (m+(n+1)) y))):=by
     have g:=aB.out;exact⟨g.os,g.tape,g.output,ay g.size (dt (bm _ _ _ _).symm),λaS X=>(aV (by omega) _ _ _ _).trans (g.block aS X)⟩
    have aU:Hid (∀o:Obj,aj w ((jc e (w.heap.size+1+1) (k*4) (gd (m+(n+1)) y)).alloc o)/\(((jc e (w.heap.size+1+1) (k*4) (gd (m+(n+1)) y)).alloc o).cell? ⟨w.heap.size,0,none⟩=some (ae a 4 c)/\((jc e (w.heap.size+1+1) (k*4) (gd (m+(n+1)) y)).alloc o).cell? ⟨w.heap.size,1,none⟩=some (ab self))/\np (w.heap.size+1) ((jc e (w.heap.size+1+1) (k*4) (gd (m+(n+1)) y)).alloc o)/\LZ (λy=>vl m b self (n+1) y) p (k+1)/\∃l,tB (m+(n+1)) (vh (λy=>vl m b self (n+1) y) p) len (w.heap.size+1+1) (k+1) l ((jc e (w.heap.size+1+1) (k*4) (gd (m+(n+1)) y)).alloc o)):=by
     intro o;have C:Below (jc e (w.heap.size+1+1) (k*4) (gd (m+(n+1)) y)).heap.size (jc e (w.heap.size+1+1) (k*4) (gd (m+(n+1)) y)) ((jc e (w.heap.size+1+1) (k*4) (gd (m+(n+1)) y)).alloc o):=(ap _ _).alloc (ak _) _;have a6:(jc e (w.heap.size+1+1) (k*4) (gd (m+(n+1)) y)).heap.size=e.heap.size:=bm _ _ _ _;have a2:=z.out.lt.2;refine⟨M.out.trans (C.mono M.out.size),⟨?_,?_⟩,?_,au.out,l++ [y],t.out.grow C⟩
     ·exact(aq C _ _ (by omega)).trans ((bt (aV (by omega) _ _ _ _) _).trans Z)
     ·exact(aq C _ _ (by omega)).trans ((bt (aV (by omega) _ _ _ _) _).trans aa)
     ·refine np.below ?_ C;exact O.out.block (aV (by omega) _ _ _ _) (dt a6.symm)
    obtain⟨an,aR⟩:∃an,(l.map (λd=>(⟨m+(n+1),d⟩:An))++List.replicate (len-k) zA)[k]?=some an:=⟨_,aH (by simp[j.out.1];omega)⟩;obtain⟨bi,bj,bk,bl⟩:=z.out.cells k an aR;have bo:=λa8=>z.out.free a8;have a2:w.heap.size+1+1<e.heap.size:=z.out.lt.2;clear q j x r i t au M z aR O D aP R;go_wp2_with fail;go_roundw
    case rel=>exact⟨k+1,by omega,by go_num,aU.out _⟩
    case measure=>simp[intOf];omega
  ·obtain rfl:k=len:=by omega
   have K:Hid (o=some (cX (m+n) (vh (λy=>vl m b self n y) p))):=by
    show o=_;rw[aw.out,JU x.out (by rw[W.out];exact ak _)];rfl
   have aX:=λba bb bc bd=>ao (GQ j.out (by rw[JV];exact W.out) rfl i.out a3 (w.heap.size+1) (by omega) (by omega) ba bb bc bd);obtain⟨⟨ag,ah,ai,al⟩,⟨aY,aZ,a0,a1⟩,aQ⟩:=G.out;clear x j i V aC;go_wp2_with fail;rw[K.out];exact av (v:=.tuple #[.agg #[ab 4,ab 0,af .empty,ae (some ⟨w.heap.size+1+1,0,none⟩) k k],.bool true]) (by simp[results,Tryz.results183,go_sem,ag,ah,ai,al];rfl) rfl (aX _ _ _ _).out
theorem AD{P:Nat->Prop}:(N n:Nat)->n<=N->(x:Tm n)->bZ P n x->bZ P N (aO N n x)
 | _,0,_,_,k=>k.elim
 | 0,n+1,h,_,_=>by omega
 | N+1,n+1,h,x,k=>by
  rcases k with k|⟨b,o,e,d,k⟩
  ·exact ah (by simp[aO,k])
  ·refine ai ⟨b,o,e,d,λi y a=>?_⟩;simp only[aO,dr]at a;obtain⟨c,f,rfl⟩:=cd.1 a;exact AD N n (by omega) c (k i c f)
theorem IQ(N n:Nat)(x:Tm (n+1)):dj (N+1) (aO (N+1) (n+1) x)=dj (n+1) x:=by simp[dj,aO]
theorem IP{N n:Nat}(d:n<=N){x y:Tm (n+1)}(a:az ⟨n+1,x⟩)(b:ax (n+1) y (n+1) x=true):ax (N+1) (aO (N+1) (n+1) y) (N+1) (aO (N+1) (n+1) x)=true:=by
 have c:az ⟨n+1,y⟩:=aL.2 (by rw[jf _ _ _ _ b];exact aL.1 a);exact bQ _ _ _ _ _ _ (eZ (N+1) (n+1) (by omega) y c) (bQ _ _ _ _ _ _ b (dK _ _ _ _ (eZ (N+1) (n+1) (by omega) x a)))
theorem GY{N n:Nat}(b:n<=N){x y:Tm (n+1)}{w w':World}(f:az ⟨n+1,x⟩)(c:aj w w')(d:In w'.heap.size w' (n+1) y)(e:bZ (λq=>w.heap.size<=q) (n+1) y)(g:ax (n+1) y (n+1) x=true)(r:Bool):jJ (N+1) (if r then some (aO (N+1) (n+1) x)else none) w (.returned (.tuple #[.agg #[ab y.1.1,ab y.1.2.1,af y.1.2.2,ae y.2.1.1 y.2.2.length y.2.1.2],.bool r])) w':=by
 refine⟨aO (N+1) (n+1) y,r,by rw[IQ];rfl,c,oo _ _ (by omega) _ _ _ d,AD _ _ (by omega) _ e,by cases r<;>rfl,λh a=>?_⟩;cases r with
 | false=>cases a
 | true=>
  obtain rfl:=au a;exact IP b f g
theorem vj{N:Nat}{o:Option (Tm (N+1))}{w w1 w2:World}{y:Tm (N+1)}{r:Bool}{q:Nat}(c:aj w w1)(k:w.heap.size<=q)(m:q<w1.heap.size)(e:aj w1 w2/\In w2.heap.size w2 (N+1) y/\bZ (λq=>w1.heap.size<=q) (N+1) y/\r=o.isSome/\∀d,o=some d->ax (N+1) y (N+1) d=true)(v0 v1 v2 v3:Value):jJ (N+1) o w (.returned (.tuple #[.agg #[ab y.1.1,ab y.1.2.1,af y.1.2.2,ae y.2.1.1 y.2.2.length y.2.1.2],.bool r])) (cJ w2 q 0 v0 v1 v2 v3):=by
 obtain⟨f,g,a,h,i⟩:=e;have l:=c.size;refine⟨y,r,rfl,cW (c.trans (f.mono l)) k _ _ _ _,?_,a.mono λb j=>by omega,h,i⟩;rw[bm];exact In.off (P:=λb=>w1.heap.size<=b) (λb j=>aV (by omega) _ _ _ _) a g
theorem vk{N n:Nat}(h:n<=N){x y:Tm (n+1)}{w w1 w2 g:World}{q:Nat}(p:az ⟨n+1,x⟩)(e:aj w w1)(o:w.heap.size<=q)(s:q<w1.heap.size)(k:aj w1 w2/\In w2.heap.size w2 (n+1) y/\bZ (λq=>w1.heap.size<=q) (n+1) y/\ax (n+1) y (n+1) x=true)(a:aj w2 g)(r:Bool)(v0 v1 v2 v3:Value):jJ (N+1) (if r then some (aO (N+1) (n+1) x)else none) w (.returned (.tuple #[.agg #[ab y.1.1,ab y.1.2.1,af y.1.2.2,ae y.2.1.1 y.2.2.length y.2.1.2],.bool r])) (cJ g q 0 v0 v1 v2 v3):=by
 obtain⟨c,i,d,j⟩:=k;have f:=e.size;have l:=(e.trans (c.mono f)).trans (a.mono (ay f c.size));refine GY h p (cW l o _ _ _ _) ?_ (d.mono λb m=>by omega) j r;rw[bm];exact In.off (P:=λb=>w1.heap.size<=b) (λb m=>aV (by omega) _ _ _ _) d ((i.below a).mono a.size)
theorem yY{w:World}{s0 s1:Value}{t1 t2:TypeId}:aj w ((w.alloc (.cells #[s0,s1] t1)).alloc (.cells #[ab 0,ab 0,af .empty,ae none 0 0] t2))/\np (w.heap.size+1) ((w.alloc (.cells #[s0,s1] t1)).alloc (.cells #[ab 0,ab 0,af .empty,ae none 0 0] t2)):=by
 have a:=xH (w:=w) (s0:=s0) (s1:=s1) (t1:=t1) (t2:=t2) (w':=(w.alloc (.cells #[s0,s1] t1)).alloc (.cells #[ab 0,ab 0,af .empty,ae none 0 0] t2)) (gm _ _);exact⟨a.1,a.2.2⟩
theorem yZ{w w1:World}{s0 s1:Value}{t1 t2:TypeId}(a:w1=(w.alloc (.cells #[s0,s1] t1)).alloc (.cells #[ab 0,ab 0,af .empty,ae none 0 0] t2)):aj w w1/\np (w.heap.size+1) w1/\w1.cell? ⟨w.heap.size,0,none⟩=some s0/\w1.cell? ⟨w.heap.size,1,none⟩=some s1:=by
 subst a;have a:=xH (w:=w) (s0:=s0) (s1:=s1) (t1:=t1) (t2:=t2) (w':=(w.alloc (.cells #[s0,s1] t1)).alloc (.cells #[ab 0,ab 0,af .empty,ae none 0 0] t2)) (gm _ _);exact⟨a.1,a.2.2,a.2.1.1,a.2.1.2⟩
theorem LM(N:Nat)(o:Option (Tm (N+1)))(a:Option Addr)(c:Nat)(self:Int)(j:dn self)(pa:Option Addr)(len:Nat)(pc:Nat)(w:World)(d:Hid (∀w1,aj w w1->am 181 #[ae pa len pc,af pn,ab 0] w1 λe w'=>e=.returned (.bool true)/\w'=w1))(i:Hid (o=some (bK 3 self N))):am 175 #[.agg #[ae a 4 c,ab self],ae pa len pc] w (jJ (N+1) o w):=by
 go_enter Tryz.func175,Tryz.ntmps175;go_wp2_with fail;refine(d.out _ yY.1).mono ?_;rintro e w1 ⟨rfl,g⟩;obtain⟨f,b,x,y⟩:=yZ g;have HB:=ao f;have h:=ao b;have t:w.heap.size<w1.heap.size:=by have:=b.2.2;omega
 clear g f b d;obtain⟨⟨k,l,m,n⟩,⟨p,q,r,s⟩,u⟩:=h.out;go_wp2_with fail;rw[i.out];exact av (v:=.tuple #[.agg #[ab 3,ab self,af .empty,ae none 0 0],.bool true]) (by simp[results,Tryz.results175,go_sem,k,l,m,n];rfl) rfl (xp (cW HB.out (by omega) _ _ _ _) 3 self (by simp[dn]) j)
theorem Nj(N:Nat)(o:Option (Tm (N+1)))(a:Option Addr)(c:Nat)(self:Int)(b po:Nat)(j k:Int)(l:ByteArray)(xa:Option Addr)(m xc:Nat)(y0 y1:Int)(y2:ByteArray)(ya:Option Addr)(yl yc:Nat)(pc:Nat)(w:World)(p:Hid (∀w1,aj w w1->am 181 #[ae (some ⟨b,po,none⟩) 3 pc,af pn,ab 0] w1 λe w'=>e=.returned (.bool false)/\w'=w1))(D:Hid (∀w1,aj w w1->am 181 #[ae (some ⟨b,po,none⟩) 3 pc,af vm,ab 2] w1 λe w'=>e=.returned (.bool true)/\w'=w1))(g:b<w.heap.size)(G:w.cell? ⟨b,po+4,none⟩=some (ab j)/\w.cell? ⟨b,po+4+1,none⟩=some (ab k)/\w.cell? ⟨b,po+4+2,none⟩=some (af l)/\w.cell? ⟨b,po+4+3,none⟩=some (ae xa m xc))(H:w.cell? ⟨b,po+8,none⟩=some (ab y0)/\w.cell? ⟨b,po+8+1,none⟩=some (ab y1)/\w.cell? ⟨b,po+8+2,none⟩=some (af y2)/\w.cell? ⟨b,po+8+3,none⟩=some (ae ya yl yc))(E:Hid (∀w1,aj w w1->am 182 #[.agg #[ae a 4 c,ab self],.agg #[ab j,ab k,af l,ae xa m xc],.agg #[ab y0,ab y1,af y2,ae ya yl yc]] w1 (jJ (N+1) o w1))):am 175 #[.agg #[ae a 4 c,ab self],ae (some ⟨b,po,none⟩) 3 pc] w (jJ (N+1) o w):=by
 go_enter Tryz.func175,Tryz.ntmps175;go_wp2_with fail;refine(p.out _ yY.1).mono ?_;rintro e w1 ⟨rfl,r⟩;obtain⟨q,i,ah,ai⟩:=yZ r;have HB:=ao q;have n:=ao i;have ad:w.heap.size<w1.heap.size:=by have:=i.2.2;omega
 clear r q i p;have f:=aq HB.out;obtain⟨s,t,u,x⟩:=G;obtain⟨y,z,A,B⟩:=H;replace s:=(f _ _ g).trans s;replace t:=(f _ _ g).trans t;replace u:=(f _ _ g).trans u;replace x:=(f _ _ g).trans x;replace y:=(f _ _ g).trans y;replace z:=(f _ _ g).trans z;replace A:=(f _ _ g).trans A;replace B:=(f _ _ g).trans B;clear f;go_wp2_with fail;refine(D.out _ HB.out).mono ?_;rintro e P ⟨rfl,rfl⟩;have aa:b<P.heap.size:=aN g HB.out.size;have Y:¬(w.heap.size+1=b):=by omega
 have Z:¬(b=w.heap.size+1):=by omega
 have I:∀d:Tm (N+1),dj (N+1) d=.agg #[ab d.1.1,ab d.1.2.1,af d.1.2.2,ae d.2.1.1 d.2.2.length d.2.1.2]:=λ_=>rfl;go_wp2_with fail
 go_region_held3 (λw'=>w'.cell? ⟨w.heap.size,0,none⟩=some (ae a 4 c)/\w'.cell? ⟨w.heap.size,1,none⟩=some (ab self)/\w'.cell? ⟨b,po+4,none⟩=some (ab j)/\w'.cell? ⟨b,po+4+1,none⟩=some (ab k)/\w'.cell? ⟨b,po+4+2,none⟩=some (af l)/\w'.cell? ⟨b,po+4+3,none⟩=some (ae xa m xc)
     /\w'.cell? ⟨b,po+8,none⟩=some (ab y0)/\w'.cell? ⟨b,po+8+1,none⟩=some (ab y1)/\w'.cell? ⟨b,po+8+2,none⟩=some (af y2)/\w'.cell? ⟨b,po+8+3,none⟩=some (ae ya yl yc))
  (go_keep) ((go_at_call 182;refine(E.out _ HB.out.drew).mono ?_;rintro e ak ⟨d,J,rfl,h⟩;rw[I];have f:=aq (cF h.out.1);have C:=ao (n.out.below (cF h.out.1));obtain⟨⟨Q,R,S,T⟩,⟨U,V,W,X⟩,ag⟩:=C.out))
 have F:=λK L M O=>ao (vj HB.out.drew (jr _ 1) n.out.2.2 h.out K L M O);clear h f;go_wp2_with fail;exact av (v:=.tuple #[.agg #[ab d.1.1,ab d.1.2.1,af d.1.2.2,ae d.2.1.1 d.2.2.length d.2.1.2],.bool J]) (by simp[results,Tryz.results175,go_sem,Q,R,S,T]) rfl (F _ _ _ _).out
theorem Nk(N:Nat)(o:Option (Tm (N+1)))(a:Option Addr)(c:Nat)(self:Int)(b po:Nat)(n:Nat)(L:n<=N)(x:Tm (n+1))(cl:Bool)(pc:Nat)(w:World)(l:Hid (∀w1,aj w w1->am 181 #[ae (some ⟨b,po,none⟩) 2 pc,af pn,ab 0] w1 λe w'=>e=.returned (.bool false)/\w'=w1))(C:Hid (∀w1,aj w w1->am 181 #[ae (some ⟨b,po,none⟩) 2 pc,af vm,ab 2] w1 λe w'=>e=.returned (.bool false)/\w'=w1))(D:Hid (∀w1,aj w w1->am 181 #[ae (some ⟨b,po,none⟩) 2 pc,af BI,ab 1] w1 λe w'=>e=.returned (.bool true)/\w'=w1))(f:b<w.heap.size)(M:dE w b (po+4) (n+1) x)(H:Hid (az ⟨n+1,x⟩))(G:Hid (∀w1,aj w w1->am 54 #[.agg #[ab x.1.1,ab x.1.2.1,af x.1.2.2,ae x.2.1.1 x.2.2.length x.2.1.2]] w1 λe w'=>∃y:Tm (n+1),e=.returned (dj (n+1) y)/\Hid (aj w1 w'/\In w'.heap.size w' (n+1) y/\bZ (λq=>w1.heap.size<=q) (n+1) y/\ax (n+1) y (n+1) x=true)))(E:Hid (∀w1,aj w w1->am 52 #[.agg #[ab x.1.1,ab x.1.2.1,af x.1.2.2,ae x.2.1.1 x.2.2.length x.2.1.2]] w1 λe w'=>e=.returned (.bool cl)/\aj w1 w'))(F:Hid (o=if cl then some (aO (N+1) (n+1) x)else none)):am 175 #[.agg #[ae a 4 c,ab self],ae (some ⟨b,po,none⟩) 2 pc] w (jJ (N+1) o w):=by
 go_enter Tryz.func175,Tryz.ntmps175;go_wp2_with fail;refine(l.out _ yY.1).mono ?_;rintro e w1 ⟨rfl,p⟩;obtain⟨m,i,an,ap⟩:=yZ p;have HB:=ao m;have k:=ao i;have ak:w.heap.size<w1.heap.size:=by have:=i.2.2;omega
 clear p m i l;have d:=aq HB.out;obtain⟨t,u,z,A⟩:=M;replace t:=(d _ _ f).trans t;replace u:=(d _ _ f).trans u;replace z:=(d _ _ f).trans z;replace A:=(d _ _ f).trans A;clear d;generalize x.2.2.length=S at*;go_wp2_with fail;refine(C.out _ HB.out).mono ?_;rintro e r ⟨rfl,rfl⟩;go_wp2_with fail;refine(D.out _ HB.out).mono ?_;rintro e r ⟨rfl,rfl⟩;have ah:b<r.heap.size:=aN f HB.out.size;have ad:¬(w.heap.size+1=b):=by omega
 have ag:¬(b=w.heap.size+1):=by omega
 have J:∀y:Tm (n+1),dj (n+1) y=.agg #[ab y.1.1,ab y.1.2.1,af y.1.2.2,ae y.2.1.1 y.2.2.length y.2.1.2]:=λ_=>rfl;go_wp2_with fail
 go_region_held3 (λw'=>w'.cell? ⟨b,po+4,none⟩=some (ab x.1.1)/\w'.cell? ⟨b,po+4+1,none⟩=some (ab x.1.2.1)/\w'.cell? ⟨b,po+4+2,none⟩=some (af x.1.2.2)/\w'.cell? ⟨b,po+4+3,none⟩=some (ae x.2.1.1 S x.2.1.2))
  (go_keep) ((first|(go_at_call 54;refine(G.out _ HB.out.drew).mono ?_;rintro e s ⟨y,rfl,g⟩;rw[J];have d:=aq (cF g.out.1);have j:Hid (aj w s):=(HB.out.drew).trans (g.out.1.mono HB.out.size))|(go_at_call 52;refine(E.out _ j.out).mono ?_;rintro e ar ⟨rfl,h⟩;have K:=aq h;have ai:b<s.heap.size:=aN f j.out.size;have B:=ao ((k.out.below (cF g.out.1)).below h);obtain⟨⟨T,U,V,W⟩,⟨X,Y,Z,aa⟩,al⟩:=B.out)))
 have I:=λO P Q R=>ao (vk L H.out HB.out.drew (jr _ 1) k.out.2.2 g.out h cl O P Q R);clear g d K h;go_wp2_with fail;rw[F.out];exact av (v:=.tuple #[.agg #[ab y.1.1,ab y.1.2.1,af y.1.2.2,ae y.2.1.1 y.2.2.length y.2.1.2],.bool cl]) (by simp[results,Tryz.results175,go_sem,T,U,V,W]) rfl (I _ _ _ _).out
theorem LK(N:Nat)(o:Option (Tm (N+1)))(a:Option Addr)(c:Nat)(self:Int)(pa:Option Addr)(len:Nat)(pc:Nat)(w:World)(h:Hid (∀w1,aj w w1->am 181 #[ae pa len pc,af pn,ab 0] w1 λe w'=>e=.returned (.bool false)/\w'=w1))(i:Hid (∀w1,aj w w1->am 181 #[ae pa len pc,af vm,ab 2] w1 λe w'=>e=.returned (.bool false)/\w'=w1))(j:Hid (∀w1,aj w w1->am 181 #[ae pa len pc,af BI,ab 1] w1 λe w'=>e=.returned (.bool false)/\w'=w1))(k:Hid (∀w1,aj w w1->am 183 #[.agg #[ae a 4 c,ab self],ae pa len pc] w1 (jJ (N+1) o w1))):am 175 #[.agg #[ae a 4 c,ab self],ae pa len pc] w (jJ (N+1) o w):=by
 go_enter Tryz.func175,Tryz.ntmps175;go_wp2_with fail;refine(h.out _ yY.1).mono ?_;rintro e w1 ⟨rfl,n⟩;obtain⟨m,f,J,K⟩:=yZ n;have HB:=ao m;have g:=ao f;have H:w.heap.size<w1.heap.size:=by have:=f.2.2;omega
 clear n m f h;go_wp2_with fail;refine(i.out _ HB.out).mono ?_;rintro e y ⟨rfl,rfl⟩;go_wp2_with fail;refine(j.out _ HB.out).mono ?_;rintro e y ⟨rfl,rfl⟩;go_wp2_with fail;refine(k.out _ HB.out).mono ?_;rintro e L ⟨b,r,rfl,d⟩;have p:=ao (g.out.below d.out.1);have q:=λs t u x=>ao (vj HB.out (jr _ 1) g.out.2.2 d.out s t u x);obtain⟨⟨z,A,B,C⟩,⟨D,E,F,G⟩,I⟩:=p.out;have l:dj (N+1) b=.agg #[ab b.1.1,ab b.1.2.1,af b.1.2.2,ae b.2.1.1 b.2.2.length b.2.1.2]:=rfl;rw[l];clear d k i j l;go_wp2_with fail;exact av (v:=.tuple #[.agg #[ab b.1.1,ab b.1.2.1,af b.1.2.2,ae b.2.1.1 b.2.2.length b.2.1.2],.bool r]) (by simp[results,Tryz.results175,go_sem,z,A,B,C]) rfl (q _ _ _ _).out
end Go.Proofs.YtckamaoibonjcaaGreat
