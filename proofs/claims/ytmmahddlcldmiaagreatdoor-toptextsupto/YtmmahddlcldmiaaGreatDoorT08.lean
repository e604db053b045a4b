/- Proved here: plain facts and contracts. No condition but what each names. -/
import Derived.Test.YtmmahddlcldmiaaGreatDoorT07
namespace Go.Proofs.YtmmahddlcldmiaaGreatDoor
open Go.RowKit Go.Proofs.Tryz
set_option maxRecDepth 100000
set_option maxHeartbeats 1000000
def pT:ByteArray:=⟨#[115,101,108,102]⟩
def wm:ByteArray:=⟨#[97,100,100]⟩
def CG:ByteArray:=⟨#[112,117,116]⟩
def pF(N:Nat)(x:Tm N):Int:=(gg N x).1.2.1
def ua(n:Nat)(p:List (Tm n))(s:ByteArray)(k:Nat):Bool:=
 decide (p.length=1+k) && match p[0]? with
  | some a=>bU ⟨n,a⟩==2 && (gg n a).1.2.2.toList==s.toList
  | none=>false
def cG{c d:Type}(f:c->Option d):List c->Option (List d)
 | []=>some []
 | a::p=>(f a).bind λb=>(cG f p).map λl=>b::l
def bR(k a:Int)(N:Nat):Tm (N+1):=((k,a,.empty),(none,0),[])
def Aa(N:Nat)(a c:Tm N):Bool:=bU ⟨N,a⟩==1 && bU ⟨N,c⟩==1 && oe (pF N a+pF N c) (-1099511627776) 1099511627776
def tR(N:Nat)(a c:Tm N):Option (Tm (N+1)):=if Aa N a c then some (bR 1 (pF N a+pF N c) N)else none
def cY(N:Nat)(l:List (Tm N)):Tm (N+1):=((4,0,.empty),(none,0),l)
def vl(m:Nat)(b:List (Tm m))(self:Int):(n:Nat)->Tm n->Option (Tm (m+n))
 | 0,_=>none
 | n+1,x=>
  if x.1.1=5 then (b[x.1.2.1.toNat]?).bind λy=>if bU ⟨m,y⟩=6 then none else some (aS (m+n+1) m y)
  else if x.1.1=6 then none
  else if x.1.1=4 then
   if ua n x.2.2 pT 0 then some (bR 3 self (m+n))
   else if ua n x.2.2 wm 2 then
    (x.2.2[1]?).bind λa=>(x.2.2[2]?).bind λc=>(vl m b self n a).bind λa=>(vl m b self n c).bind λc=>tR (m+n) a c
   else if ua n x.2.2 CG 1 then
    (x.2.2[1]?).bind λa=>if aK n a then some (aS (m+n+1) n a)else none
   else (cG (λy=>vl m b self n y) x.2.2).map (cY (m+n))
  else some (aS (m+n+1) (n+1) x)
theorem qP{e g:Type}(f:e->Option g):(p:List e)->(l:List g)->cG f p=some l->l.length=p.length/\∀(i:Nat)(a:e)(y:g),p[i]?=some a->l[i]?=some y->f a=some y
 | [],l,b=>by simp[cG]at b;subst b;exact⟨rfl,λi a y c=>by simp at c⟩
 | a::p,l,b=>by
  simp only[cG]at b;obtain⟨y,n,b⟩:=bB.1 b;obtain⟨r,m,rfl⟩:=ci.1 b;obtain⟨j,k⟩:=qP f p r m;refine⟨by simp[j],λi h o c d=>?_⟩;cases i with
  | zero=>
   simp at c d;subst c d;exact n
  | succ i=>exact k i h o (by simpa using c) (by simpa using d)
theorem lX{c d:Type}(f:c->Option d):(p:List c)->(i:Nat)->(a:c)->p[i]?=some a->f a=none->cG f p=none
 | [],i,a,h,_=>by simp at h
 | b::p,0,a,h,k=>by
  simp at h;subst h;simp[cG,k]
 | b::p,i+1,a,h,k=>by
  simp only[cG];rw[lX f p i a (by simpa using h) k];simp
theorem xh{b c:Type}(f:b->Option c)(g:b->c):(p:List b)->(∀a∈p,f a=some (g a))->cG f p=some (p.map g)
 | [],_=>rfl
 | a::p,h=>by simp[cG,h a (by simp),xh f g p λx d=>h x (bX _ d)]
theorem zo{b c d:Type}(f:b->List d)(g:c->List d)(K:Nat):(p:List b)->(l:List c)->l.length=p.length->(∀(i:Nat)(a:b)(y:c),p[i]?=some a->l[i]?=some y->(g y).length<=K*(f a).length)->(l.flatMap g).length<=K*(p.flatMap f).length
 | [],[],_,_=>by simp
 | [],_::_,h,_=>by simp at h
 | _::_,[],h,_=>by simp at h
 | a::p,y::l,h,k=>by
  have m:=k 0 a y rfl rfl;have n:=zo f g K p l (by simpa using h) λi a y e j=>k (i+1) a y (by simpa using e) (by simpa using j);simp only[bz,bk];rw[Nat.mul_add];omega
theorem oU:(N n:Nat)->n<=N->(x:Tm n)->(ax N (aS N n x)).length<=(ax n x).length
 | 0,0,_,_=>ak _
 | _+1,0,_,_=>by simp[aS,ax]
 | 0,n+1,h,_=>by omega
 | N+1,n+1,h,x=>by
  have:=zo (λy=>ax n y) (λy=>ax N y) 1 x.2.2 (x.2.2.map λy=>aS N n y) (by simp) λi a y c b=>by
   simp[c]at b;subst b;rw[Nat.one_mul];exact oU N n (by omega) a
  simp only[ax,aS,bf];omega
theorem vq{a K:Nat}(b:1<=K):a<=K*a:=Nat.le_mul_of_pos_left a b
theorem BD{d e:Type}(f:d->List e)(p:List d)(a:d)(c:a∈p):(f a).length<=(p.flatMap f).length:=by
 induction p with
 | nil=>cases c
 | cons b p ih=>
  simp only[bz,bk];rcases ch.1 c with rfl|c
  ·omega
  ·have:=ih c;omega
theorem CE(m:Nat)(b:List (Tm m))(self:Int)(K:Nat)(f:1<=K)(q:∀y∈b,(ax m y).length<=K):(n:Nat)->(x:Tm n)->(o:Tm (m+n))->vl m b self n x=some o->(ax (m+n) o).length<=K*(ax n x).length
 | 0,_,_,d=>by simp[vl]at d
 | n+1,x,o,d=>by
  have one:∀k r,(ax (m+n+1) (bR k r (m+n))).length<=K*(ax (n+1) x).length:=λk r=>by
   have:1*1<=K*(ax (n+1) x).length:=Nat.mul_le_mul f (by simp[ax]);simpa [ax,bR]using this
  have up:∀(y:Tm n),y∈x.2.2->K*(ax n y).length<=K*(ax (n+1) x).length:=λy j=>by
   have:=BD (λy=>ax n y) x.2.2 y j;exact Nat.mul_le_mul_left K (by simp only[ax,bf]at this ⊢;omega)
  simp only[vl]at d;split at d
  ·obtain⟨y,j,d⟩:=bB.1 d;split at d
   ·cases d
   ·obtain rfl:=aw d;have e:=oU (m+n+1) m (by omega) y;have g:=q y (aH j);have h:K*1<=K*(ax (n+1) x).length:=Nat.mul_le_mul_left K (by simp[ax]);show (ax (m+n+1) _).length<=_;omega
  ·split at d
   ·cases d
   ·split at d
    ·split at d
     ·obtain rfl:=aw d;exact one _ _
     ·split at d
      ·obtain⟨a,p,d⟩:=bB.1 d;obtain⟨c,A,d⟩:=bB.1 d;obtain⟨v,z,d⟩:=bB.1 d;obtain⟨w,B,d⟩:=bB.1 d;unfold tR at d;split at d
       ·obtain rfl:=aw d;exact one _ _
       ·cases d
      ·split at d
       ·obtain⟨a,p,d⟩:=bB.1 d;split at d
        ·obtain rfl:=aw d;have e:=oU (m+n+1) n (by omega) a;have g:=up a (aH p);have h:=vq (a:=(ax n a).length) f;show (ax (m+n+1) _).length<=_;omega
        ·cases d
       ·obtain⟨l,u,rfl⟩:=ci.1 d;obtain⟨e,g⟩:=qP _ _ _ u;have h:=zo (λy=>ax n y) (λy=>ax (m+n) y) K x.2.2 l e λi a y s t=>CE m b self K f q n a y (g i a y s t);show (ax (m+n+1) (cY (m+n) l)).length<=_;simp only[ax,cY,bf];rw[Nat.mul_add];omega
    ·obtain rfl:=aw d;have e:=oU (m+n+1) (n+1) (by omega) x;have h:=vq (a:=(ax (n+1) x).length) f;show (ax (m+n+1) _).length<=_;omega
theorem kC:(n:Nat)->(x:Tm n)->(m:Nat)->(y:Tm m)->ay n x m y=true->(ax n x).length=(ax m y).length
 | 0,_,_,_,h=>by simp[ay]at h
 | _+1,_,0,_,h=>by simp[ay]at h
 | n+1,x,m+1,y,h=>by
  obtain⟨f,e⟩:=bG h;have key:∀(p:List (Tm n))(q:List (Tm m)),aC (λa b=>ay n a m b) p q=true->(p.flatMap λy=>ax n y).length=(q.flatMap λy=>ax m y).length:=by
   intro p
   induction p with
   | nil=>intro q d;cases q with
    | nil=>rfl
    | cons _ _=>simp[aC]at d
   | cons a p ih=>intro q d;cases q with
    | nil=>simp[aC]at d
    | cons c q=>
     simp only[aC,aA]at d;simp only[bz,bk];rw[kC n a m c d.1,ih q d.2]
  simp only[ax,bf];rw[key _ _ e]
theorem bC{n:Nat}{x:Tm n}:bv n x=0 ↔ bI n x=true/\fA n x<=12/\sz n x<=200:=by
 rw[<-gj];unfold wV;constructor
 ·intro a;split at a
  ·rename_i c;split at a
   ·cases a
   ·rename_i f;exact⟨c,by omega,by omega⟩
  ·cases a
 ·rintro ⟨b,d,e⟩;rw[if_pos b,if_neg (by omega)]
theorem Fv:(n:Nat)->(x:Tm n)->aD ⟨n,x⟩->((ax n x).length:Int)<=sz n x+1
 | 0,_,h=>(dh h).elim
 | n+1,x,h=>by
  have c:=eI (bw n x) (h (bw n x) (by simp[ax,bw]));by_cases a:x.1.1=4
  ·have key:∀l:List (Tm n),(∀y∈l,aD ⟨n,y⟩)->((l.flatMap λy=>ax n y).length:Int)<=(l.map λy=>1+sz n y).sum:=by
     intro l
     induction l with
     | nil=>intro _;simp
     | cons y l ih=>
      intro b;have g:=Fv n y (b y (by simp));have i:=ih λf e=>b f (bX _ e);simp only[bz,bk,aM,bA];omega
   have:=key x.2.2 λy d=>aU n x y h d;simp only[ax,bf,sz,if_pos a];omega
  ·have:x.2.2=[]:=bF (c.2.2.2.2 a);simp[ax,this,sz,a]
theorem l7{n:Nat}{x:Tm n}(a:bv n x=0):(ax n x).length<=201:=by
 obtain⟨b,_,c⟩:=bC.1 a;have:=Fv n x (aL.2 b);omega
theorem hU{m:Nat}{b:List (Tm m)}(a:ge m b=true):b.length=4/\∀y∈b,bv m y=0/\aD ⟨m,y⟩/\(bU ⟨m,y⟩=6\/aK m y=true):=by
 unfold ge at a;simp only[aA,bO,bZ]at a;refine⟨a.1,λy c=>?_⟩;have:=a.2 y c;unfold BQ at this;simp only[aA,gq,cm]at this;refine⟨this.1,aL.2 (bC.1 this.1).1,?_⟩;rw[fw];exact this.2
theorem qm{N n:Nat}(e:n<=N)(x:Tm n)(c:aD ⟨n,x⟩):aD ⟨N,aS N n x⟩:=by
 cases n with
 | zero=>exact(dh c).elim
 | succ n=>
  obtain⟨a,rfl⟩:∃a,N=a+1:=⟨N-1,by omega⟩;intro d b;simp only at b;rw[nu a n (by omega) x]at b;exact c d b
theorem vP{N:Nat}{x:Tm (N+1)}(c:cg (bw N x)=true)(k:∀y∈x.2.2,aD ⟨N,y⟩):aD ⟨N+1,x⟩:=by
 intro b a;simp only[ax,ch,jG]at a;rcases a with rfl|⟨y,d,a⟩
 ·exact c
 ·exact k y d b a
theorem wi(m:Nat)(b:List (Tm m))(self:Int)(k:1<=self/\self<=99)(i:∀y∈b,aD ⟨m,y⟩):(n:Nat)->(x:Tm n)->aD ⟨n,x⟩->(g:Tm (m+n))->vl m b self n x=some g->aD ⟨m+n,g⟩
 | 0,_,_,_,d=>by simp[vl]at d
 | n+1,x,hr,g,d=>by
  have r:=hr (bw n x) (by simp[ax,bw]);have B:x.2.2.length<=8:=mj (bw n x) r;simp only[vl]at d;split at d
  ·obtain⟨y,e,d⟩:=bB.1 d;split at d
   ·cases d
   ·obtain rfl:=aw d;exact qm (N:=m+n+1) (by omega) y (i y (aH e))
  ·split at d
   ·cases d
   ·split at d
    ·split at d
     ·obtain rfl:=aw d;exact vP (N:=m+n) (by simp[cg,bR,bw,oe,k]) (by intro y e;cases e)
     ·split at d
      ·obtain⟨a,h,d⟩:=bB.1 d;obtain⟨c,z,d⟩:=bB.1 d;obtain⟨u,w,d⟩:=bB.1 d;obtain⟨v,A,d⟩:=bB.1 d;unfold tR at d;split at d
       ·rename_i o;obtain rfl:=aw d;simp only[Aa,aA]at o;exact vP (N:=m+n) (by simp[cg,bR,bw,o.2]) (by intro y e;cases e)
       ·cases d
      ·split at d
       ·obtain⟨a,h,d⟩:=bB.1 d;split at d
        ·obtain rfl:=aw d;exact qm (N:=m+n+1) (by omega) a (aU n x a hr (aH h))
        ·cases d
       ·obtain⟨l,t,rfl⟩:=ci.1 d;obtain⟨p,q⟩:=qP _ _ _ t;refine vP (N:=m+n) ?_ λy e=>?_
        ·have:(l.length:Int)<=8:=by omega
         simp[cg,cY,bw,this]
        ·obtain⟨f,j⟩:=cM e;have s:f<x.2.2.length:=by rw[<-p];exact(aO.1 j).1
         exact wi m b self k i n x.2.2[f] (aU n x _ hr (jE _)) y (q f _ y (aG s) j)
    ·obtain rfl:=aw d;exact qm (N:=m+n+1) (by omega) x hr
def FE(a:Int)(bd:Bool)(self:Int):Int:=if a=0 then if bd then if 1<=self/\self<=99 then 0 else 1 else 5 else a
def nQ{N:Nat}(E:Int)(o:Option (Tm N)):Option (Tm N):=if E=0 then o.bind λa=>if bv N a=0 then some a else none else none
def FD{N:Nat}(E:Int)(o:Option (Tm N)):Int:=if E=0 then if o.isSome then 0 else 7 else E
theorem Fq{n:Nat}{p:List (Tm n)}{s:ByteArray}{k:Nat}(a:p.length≠1+k):ua n p s k=false:=by simp[ua,a]
theorem OH{n:Nat}{p:List (Tm (n+1))}{s:ByteArray}{k:Nat}{y:Tm (n+1)}(a:p.length=1+k)(b:p[0]?=some y):ua (n+1) p s k=(y.1.1==2 && y.1.2.2.toList==s.toList):=by
 simp[ua,a,b,bU,gg,bw]
theorem GP(a:Option Addr)(len pc:Nat)(s:ByteArray)(k:Nat)(w:World)(f:k<=8)(c:len≠1+k):am 199 #[ae a len pc,af s,ab k] w λe w'=>e=.returned (.bool false)/\w'=w:=by
 have d:((len:Int)==1+(k:Int))=false:=by simp;omega
 have b:IntKind.i64.wrap (1+(k:Int))=1+(k:Int):=by rw[IntKind.wrap];simp[IntKind.bits,IntKind.signed];omega
 go_enter func199,ntmps199;go_wp2_with fail
 go_ret
 exact⟨rfl,rfl⟩
theorem GO(a po len pc:Nat)(s:ByteArray)(k:Nat)(b:Int)(c:ByteArray)(w:World)(l:len<=8)(j:k<=8)(g:len=1+k)(c0:w.cell? ⟨a,po,none⟩=some (ab b))(d:w.cell? ⟨a,po+2,none⟩=some (af c)):am 199 #[ae (some ⟨a,po,none⟩) len pc,af s,ab k] w λe w'=>e=.returned (.bool (b==2 && c.toList==s.toList))/\w'=w:=by
 have h:((len:Int)==1+(k:Int))=true:=by simp;omega
 have f:IntKind.i64.wrap (1+(k:Int))=1+(k:Int):=by rw[IntKind.wrap];simp[IntKind.bits,IntKind.signed];omega
 have i:(0:Int)<(len:Int):=by omega
 cases hx:b==2
 ·go_enter func199,ntmps199;go_wp2_with fail
  go_ret
  exact⟨rfl,rfl⟩
 ·go_enter func199,ntmps199;go_wp2_with fail
  go_ret
  exact⟨rfl,rfl⟩
theorem Dy(n:Nat)(p:List (Tm n))(a:Option Addr)(pc B:Nat)(s:ByteArray)(k:Nat)(w:World)(d:fC B w n p a)(m:p.length<=8)(h:k<=8):am 199 #[ae a p.length pc,af s,ab k] w λe w'=>e=.returned (.bool (ua n p s k))/\w'=w:=by
 by_cases c:p.length=1+k
 ·rcases d with d|⟨b,o,rfl,u,d⟩
  ·rw[d]at c;simp at c;omega
  ·obtain⟨f,i⟩:∃f,p[0]?=some f:=⟨p[0]'(by omega),aG _⟩;obtain⟨g,t⟩:=d 0 f i;cases n with
   | zero=>exact g.elim
   | succ n=>
    rw[OH c i];obtain⟨j,q,l,r⟩:=g;exact GO b o p.length pc s k f.1.1 f.1.2.2 w m h c (by simpa using j) (by simpa using l)
 ·rw[Fq c];exact GP a p.length pc s k w h c
def jW(N:Nat)(o:Option (Tm N))(w:World)(e:Ending)(w':World):Prop:=
 ∃(a:Tm N)(b:Bool),e=.returned (.tuple #[df N a,.bool b])/\Hid (aj w w'/\In w'.heap.size w' N a/\cd (λd=>w.heap.size<=d) N a/\b=o.isSome/\∀c,o=some c->ay N a N c=true)
def N9(m:Nat)(b:List (Tm m))(self:Int)(n:Nat):Prop:=∀(x:Tm n)(a:Option Addr)(c B:Nat)(w:World),In B w n x->aD ⟨n,x⟩->fC B w m b a->B<=w.heap.size->
 am 183 #[.agg #[ae a 4 c,ab self],df n x] w (jW (m+n) (vl m b self n x) w)
def Ob{N:Nat}(o:Option (Tm N))(w:World)(e:Ending)(w':World):Prop:=
 ∃(c:Int)(b:Bool),e=.returned (.tuple #[ab c,.bool b])/\Hid (aj w w'/\b=(o.isSome && o.all λa=>bU ⟨N,a⟩==1)/\∀a,o=some a->c=pF N a)
theorem DN{N:Nat}{o:Option (Tm (N+1))}{w w1 w2:World}{y:Tm (N+1)}{r:Bool}(f:aj w w2)(d:aj w1 w2/\In w2.heap.size w2 (N+1) y/\cd (λq=>w1.heap.size<=q) (N+1) y/\r=o.isSome/\∀a,o=some a->ay (N+1) y (N+1) a=true)(c:Bool)(g:c=(r && y.1.1==1)):aj w w2/\c=(o.isSome && o.all λa=>bU ⟨N+1,a⟩==1)/\∀a,o=some a->y.1.2.1=pF (N+1) a:=by
 obtain⟨_,_,_,e,b⟩:=d;refine⟨f,?_,λa h=>?_⟩
 ·rw[g,e];cases ho:o with
  | none=>rfl
  | some a=>
   have:=(bG (b a ho)).1;simp[bU,this]
 ·have:=(bG (b a h)).1;simp[pF,gg,bw,this]
theorem IR{w w':World}{a b:Obj}(d:Below ((w.alloc a).alloc b).heap.size ((w.alloc a).alloc b) w'):aj w w':=by
 have c:aj w ((w.alloc a).alloc b):=((ap _ _).alloc (ak _) _).alloc (by simp) _;exact c.trans (d.mono c.size)
theorem ti(N:Nat)(o:Option (Tm (N+1)))(a:Option Addr)(c:Nat)(self:Int)(k l:Int)(m:ByteArray)(xa:Option Addr)(n xc:Nat)(w:World)(i:Hid (∀w1,aj w w1->am 183 #[.agg #[ae a 4 c,ab self],.agg #[ab k,ab l,af m,ae xa n xc]] w1 (jW (N+1) o w1))):am 204 #[.agg #[ae a 4 c,ab self],.agg #[ab k,ab l,af m,ae xa n xc]] w (Ob o w):=by
 go_enter func204,ntmps204;go_wp2_with fail;refine(i _ (((ap _ _).alloc (ak _) _).alloc (by simp) _)).mono ?_;rintro s f ⟨d,q,rfl,e⟩;have HB:Hid (aj w f):=IR e.1;have j:df (N+1) d=.agg #[ab d.1.1,ab d.1.2.1,af d.1.2.2,ae d.2.1.1 d.2.2.length d.2.1.2]:=rfl;rw[j];clear j i;have h:=λr p=>aq (DN HB e r p);clear HB e;have g:Hid (∀o:Obj,aj w f->aj w (f.alloc o).drew):=λo b=>(b.alloc b.size o).drew;cases q
 ·go_wp2_with fail;go_region;go_wp2_with fail
  go_ret2
  have b:=(h false rfl).out;exact⟨_,_,rfl,g _ b.1,b.2⟩
 ·go_wp2_with fail;go_region;go_wp2_with fail
  go_ret2
  have b:=(h _ rfl).out;exact⟨_,_,rfl,g _ b.1,b.2⟩
def Pl{N:Nat}(o:Option (Tm N)):Prop:=∀a,o=some a->bU ⟨N,a⟩=1-> -1099511627776<=pF N a/\pF N a<=1099511627776
def wU{N:Nat}(b d:Option (Tm N)):Option (Tm (N+1)):=b.bind λa=>d.bind λc=>tR N a c
theorem Nj{N:Nat}{a d:Option (Tm N)}(b:(a.isSome && a.all λe=>bU ⟨N,e⟩==1)=false):wU a d=none:=by
 cases a with
 | none=>rfl
 | some f=>
  simp at b;cases d with
  | none=>rfl
  | some c=>simp[wU,tR,Aa,b]
theorem Lh{N:Nat}{d a:Option (Tm N)}(b:(a.isSome && a.all λe=>bU ⟨N,e⟩==1)=false):wU d a=none:=by
 cases d with
 | none=>rfl
 | some f=>
  cases a with
  | none=>rfl
  | some c=>
   simp at b;simp[wU,tR,Aa,b]
theorem Li{N:Nat}{b d:Option (Tm N)}{e v:Int}(i:true=(b.isSome && b.all λa=>bU ⟨N,a⟩==1))(j:true=(d.isSome && d.all λa=>bU ⟨N,a⟩==1))(k:∀a,b=some a->e=pF N a)(l:∀a,d=some a->v=pF N a)(m:Pl b)(n:Pl d):wU b d=(if -1099511627776<=e+v/\e+v<=1099511627776 then some (bR 1 (e+v) N)else none)/\(-1099511627776<=e/\e<=1099511627776)/\(-1099511627776<=v/\v<=1099511627776):=by
 cases b with
 | none=>simp at i
 | some f=>
  cases d with
  | none=>simp at j
  | some c=>
   have g:bU ⟨N,f⟩=1:=by simpa using i.symm
   have h:bU ⟨N,c⟩=1:=by simpa using j.symm
   rw[k f rfl,l c rfl];refine⟨?_,m f rfl g,n c rfl h⟩;simp[wU,tR,Aa,g,h,oe]
theorem jr:dt 0:=by simp[dt]
theorem lg(N:Nat)(k a:Int)(b:dt k)(c:dt a)(B:Nat)(w:World)(P:Nat->Prop):In B w (N+1) (bR k a N)/\cd P (N+1) (bR k a N):=
 ⟨⟨⟨b,c,aI _,aI _,aI _⟩,ah rfl⟩,ah rfl⟩
theorem xC(N:Nat)(k a:Int):ay (N+1) (bR k a N) (N+1) (bR k a N)=true:=cV rfl rfl
theorem kF{N:Nat}{w w':World}(a:aj w w'):jW (N+1) none w (.returned (.tuple #[.agg #[ab 0,ab 0,af .empty,ae none 0 0],.bool false])) w':=
 ⟨bR 0 0 N,false,rfl,a,(lg N 0 0 jr jr _ _ (λ_=>True)).1,(lg N 0 0 jr jr 0 w _).2,rfl,λc b=>by cases b⟩
theorem yx{N:Nat}{w w':World}(d:aj w w')(k a:Int)(b:dt k)(c:dt a):jW (N+1) (some (bR k a N)) w (.returned (.tuple #[.agg #[ab k,ab a,af .empty,ae none 0 0],.bool true])) w':=
 ⟨bR k a N,true,rfl,d,(lg N k a b c _ _ (λ_=>True)).1,(lg N k a b c 0 w _).2,rfl,λf e=>by obtain rfl:=aw e;exact xC N k a⟩
theorem nr(w:World)(a b c d:Obj):aj w ((((w.alloc a).alloc b).alloc c).alloc d):=((((ap _ _).alloc (ak _) _).alloc (by simp) _).alloc (by simp;omega) _).alloc (by simp;omega) _
def nM(q:Nat)(w:World):Prop:=(w.cell? ⟨q,0,none⟩=some (ab 0)/\w.cell? ⟨q,1,none⟩=some (ab 0)/\w.cell? ⟨q,2,none⟩=some (af .empty)/\w.cell? ⟨q,3,none⟩=some (ae none 0 0))/\(w.frozen? ⟨q,0,none⟩=false/\w.frozen? ⟨q,1,none⟩=false/\w.frozen? ⟨q,2,none⟩=false/\w.frozen? ⟨q,3,none⟩=false)/\q<w.heap.size
theorem nM.below{q:Nat}{w w':World}(e:nM q w)(c:aj w w'):nM q w':=by
 obtain⟨⟨f,g,h,i⟩,⟨f0,f1,f2,f3⟩,d⟩:=e;have a:=λo=>c.cell (p:=⟨q,o,none⟩) d;have b:=λo=>c.frozen (p:=⟨q,o,none⟩) d;exact⟨⟨(a 0).trans f,(a 1).trans g,(a 2).trans h,(a 3).trans i⟩,⟨(b 0).trans f0,(b 1).trans f1,(b 2).trans f2,(b 3).trans f3⟩,aR d c.size⟩
theorem Dl{w w':World}{s0 s1 g h i j y0 y1 y2 e:Value}{t1 t2 t3 t4:TypeId}(a:Below ((((w.alloc (.cells #[s0,s1] t1)).alloc (.cells #[g,h,i,j] t2)).alloc (.cells #[y0,y1,y2,e] t3)).alloc (.cells #[ab 0,ab 0,af .empty,ae none 0 0] t4)).heap.size ((((w.alloc (.cells #[s0,s1] t1)).alloc (.cells #[g,h,i,j] t2)).alloc (.cells #[y0,y1,y2,e] t3)).alloc (.cells #[ab 0,ab 0,af .empty,ae none 0 0] t4)) w'):(w'.cell? ⟨w.heap.size,0,none⟩=some s0/\w'.cell? ⟨w.heap.size,1,none⟩=some s1)/\ (w'.cell? ⟨w.heap.size+1+1,0,none⟩=some y0/\w'.cell? ⟨w.heap.size+1+1,1,none⟩=some y1/\w'.cell? ⟨w.heap.size+1+1,2,none⟩=some y2/\w'.cell? ⟨w.heap.size+1+1,3,none⟩=some e)/\nM (w.heap.size+1+1+1) w':=by
 have k:=a.size;simp at k;have f:=λo=>a.cell (p:=⟨w.heap.size,o,none⟩) (by simp;omega);have b:=λo=>a.cell (p:=⟨w.heap.size+1+1,o,none⟩) (by simp;try omega);have d:=λo=>a.cell (p:=⟨w.heap.size+1+1+1,o,none⟩) (by simp);have c:=λo=>a.frozen (p:=⟨w.heap.size+1+1+1,o,none⟩) (by simp)
 exact⟨⟨(f 0).trans (by simp[go_sem]),(f 1).trans (by simp[go_sem])⟩,⟨(b 0).trans (by simp[go_sem]),(b 1).trans (by simp[go_sem]),(b 2).trans (by simp[go_sem]),(b 3).trans (by simp[go_sem])⟩,
  ⟨(d 0).trans (by simp[go_sem]),(d 1).trans (by simp[go_sem]),(d 2).trans (by simp[go_sem]),(d 3).trans (by simp[go_sem])⟩,⟨(c 0).trans (by simp[go_sem]),(c 1).trans (by simp[go_sem]),(c 2).trans (by simp[go_sem]),(c 3).trans (by simp[go_sem])⟩,by omega⟩
theorem cX{w w':World}{q:Nat}(a:aj w w')(c:w.heap.size<=q)(v0 v1 v2 v3:Value):aj w (cW w' q 0 v0 v1 v2 v3):=
 ⟨a.os,a.tape,a.output,az a.size (dz (bq _ _ _ _).symm),λk b=>(aW (by omega) _ _ _ _).trans (a.block k b)⟩
theorem Ll(N:Nat)(p q:Option (Tm N))(B:Hid (Pl p))(C:Hid (Pl q))(a:Option Addr)(c:Nat)(self:Int)(D E:Int)(F:ByteArray)(xa:Option Addr)(G xc:Nat)(y0 y1:Int)(y2:ByteArray)(ya:Option Addr)(yl yc:Nat)(w:World)(u:Hid (∀w1,aj w w1->am 204 #[.agg #[ae a 4 c,ab self],.agg #[ab D,ab E,af F,ae xa G xc]] w1 (Ob p w1)))(x:Hid (∀w1,aj w w1->am 204 #[.agg #[ae a 4 c,ab self],.agg #[ab y0,ab y1,af y2,ae ya yl yc]] w1 (Ob q w1))):am 200 #[.agg #[ae a 4 c,ab self],.agg #[ab D,ab E,af F,ae xa G xc],.agg #[ab y0,ab y1,af y2,ae ya yl yc]] w (jW (N+1) (wU p q) w):=by
 obtain⟨o,t⟩:∃o,o=wU p q:=⟨_,rfl⟩;rw[<-t];have l:=aq t;clear t;go_enter func200,ntmps200;go_wp2_with fail;refine(u _ (nr _ _ _ _ _)).mono ?_;rintro K O ⟨b,j,rfl,d⟩;obtain⟨⟨L,M⟩,⟨d0,d1,d2,d3⟩,A⟩:=Dl d.1;have r:=aq A;have HB:Hid (aj w O):=(nr _ _ _ _ _).trans (d.1.mono (nr _ _ _ _ _).size);have m:Hid (j=_/\_):=d.2;clear u d A;cases j
 ·have e:Hid (o=none):=l.trans (Nj m.1.symm);obtain⟨⟨f,g,h,i⟩,⟨f0,f1,f2,f3⟩,_⟩:=r.out;go_wp2_with fail;rw[e.out];exact av (v:=.tuple #[.agg #[ab 0,ab 0,af .empty,ae none 0 0],.bool false]) (by simp[results,results200,go_sem,f,g,h,i];rfl) rfl (kF (cX HB (by omega) _ _ _ _))
 ·go_wp2_with fail;refine(x _ HB).mono ?_;rintro K P ⟨v,j,rfl,d⟩;have k:Hid (aj w P):=HB.trans (d.1.mono HB.size);have n:Hid (j=_/\_):=d.2;have H:=aq (r.below d.1);obtain⟨⟨f,g,h,i⟩,⟨f0,f1,f2,f3⟩,_⟩:=H;clear x d HB L M d0 d1 d2 d3 r;cases j
  ·have e:Hid (o=none):=l.trans (Lh n.1.symm);go_wp2_with fail;rw[e.out];exact av (v:=.tuple #[.agg #[ab 0,ab 0,af .empty,ae none 0 0],.bool false]) (by simp[results,results200,go_sem,f,g,h,i];rfl) rfl (kF (cX k (by omega) _ _ _ _))
  ·obtain⟨es,⟨R,S⟩,T,U⟩:=Li m.1 n.1 m.2 n.2 B C;have s:Hid (o=if -1099511627776<=b+v/\b+v<=1099511627776 then some (bR 1 (b+v) N)else none):=l.trans es;have Q:IntKind.i64.wrap (b+v)=b+v:=by rw[IntKind.wrap];simp[IntKind.bits,IntKind.signed];omega
   clear l m n es B C;by_cases y:b+v< -1099511627776
   ·have I:decide (b+v< -1099511627776)=true:=by simpa using y
    have e:Hid (o=none):=s.trans (if_neg (by omega));go_wp2_with fail;rw[e.out];exact av (v:=.tuple #[.agg #[ab 0,ab 0,af .empty,ae none 0 0],.bool false]) (by simp[results,results200,go_sem,f,g,h,i];rfl) rfl (kF (cX k (by omega) _ _ _ _))
   ·have I:decide (b+v< -1099511627776)=false:=by simpa using y
    by_cases z:1099511627776<b+v
    ·have J:decide (1099511627776<b+v)=true:=by simpa using z
     have e:Hid (o=none):=s.trans (if_neg (by omega));go_wp2_with fail;rw[e.out];exact av (v:=.tuple #[.agg #[ab 0,ab 0,af .empty,ae none 0 0],.bool false]) (by simp[results,results200,go_sem,f,g,h,i];rfl) rfl (kF (cX k (by omega) _ _ _ _))
    ·have J:decide (1099511627776<b+v)=false:=by simpa using z
     have e:Hid (o=some (bR 1 (b+v) N)):=s.trans (if_pos (by omega));go_wp2_with fail;rw[e.out];exact av (v:=.tuple #[.agg #[ab 1,ab (b+v),af .empty,ae none 0 0],.bool true]) (by simp[results,results200,go_sem,f,g,h,i];rfl) rfl (yx (cX k (by omega) _ _ _ _) 1 (b+v) (by simp[dt]) ⟨by omega,by omega⟩)
def wh{n N:Nat}(f:Tm n->Option (Tm N))(p:List (Tm n)):List (Tm N):=p.map λy=>(f y).getD (aS N 0 ())
def NM{n N:Nat}(f:Tm n->Option (Tm N))(p:List (Tm n))(k:Nat):Prop:=∀(i:Nat)(y:Tm n),i<k->p[i]?=some y->(f y).isSome=true
theorem LA{n N:Nat}{f:Tm n->Option (Tm N)}{p:List (Tm n)}{k:Nat}(c:NM f p k)(h:p.length<=k):cG f p=some (wh f p):=by
 refine xh f _ p λb e=>?_;obtain⟨g,a⟩:=cM e;have i:=(aO.1 a).1;have:=c g b (by omega) a;cases d:f b with
 | none=>rw[d]at this;cases this
 | some j=>rfl
theorem NM.next{n N:Nat}{f:Tm n->Option (Tm N)}{p:List (Tm n)}{k:Nat}{x:Tm n}(d:NM f p k)(g:p[k]?=some x)(e:true=(f x).isSome):NM f p (k+1):=by
 intro b h i a;by_cases c:b=k
 ·subst c;rw[g]at a;obtain rfl:=aw a;exact e.symm
 ·exact d b h (by omega) a
theorem Ny{n N:Nat}{f:Tm n->Option (Tm N)}{p:List (Tm n)}{k:Nat}{x:Tm n}(d:p[k]?=some x)(c:true=(f x).isSome):∃a,(wh f p)[k]?=some a/\f x=some a:=by
 cases b:f x with
 | none=>rw[b]at c;cases c
 | some a=>exact⟨a,by simp[wh,d,b],rfl⟩
theorem IP{N:Nat}{P:List (Tm N)}{w wr:World}{g len k:Nat}{l:List (Tm N)}(j:uq N P len g k l wr)(v:P.length=len)(p:k=len)(n:aj w wr)(x:len<=8)(q:Nat)(r:w.heap.size<=q)(y:q<g)(v0 v1 v2 v3:Value):jW (N+1) (some (cY N P)) w (.returned (.tuple #[.agg #[ab 4,ab 0,af .empty,ae (some ⟨g,0,none⟩) len len],.bool true])) (cW wr q 0 v0 v1 v2 v3):=by
 obtain⟨m,c,e,f⟩:=j;subst p;rw[bu (by omega)]at f;rw[gU,mT,dY]at c;refine⟨((4,0,.empty),(some ⟨g,0,none⟩,k),l),true,?_,cX n r _ _ _ _,?_,?_,rfl,λz t=>?_⟩
 ·simp only[df,m]
 ·refine⟨⟨by simp[dt],by simp[dt],aI _,by simp only;omega,by unfold maxLen;simp only;omega⟩,ai ⟨g,0,rfl,by rw[bq];exact c.lt.2,λh b a=>?_⟩⟩;obtain⟨i,u⟩:=e b (aH a);have o:=c.cells h ⟨N,b⟩ (by simp[a]);refine⟨dB.block (aW (by omega) _ _ _ _) ?_,?_⟩
  ·cases N with
   | zero=>exact i.elim
   | succ N=>
    rw[dc];exact o
  ·rw[bq];exact In.off (P:=λd=>g<d) (λd s=>aW (by omega) _ _ _ _) u i
 ·exact ai ⟨g,0,rfl,by omega,λh b a=>(e b (aH a)).2.mono λd s=>by omega⟩
 ·obtain rfl:=aw t;exact cV rfl f
theorem LB{n N:Nat}(f:Tm n->Option (Tm N))(p:List (Tm n)):(wh f p).length=p.length:=by simp[wh]
theorem uq.grow{N:Nat}{P:List (Tm N)}{len g k:Nat}{l:List (Tm N)}{w w':World}(e:uq N P len g k l w)(a:aj w w'):uq N P len g k l w':=by
 obtain⟨f,h,b,i⟩:=e;exact⟨f,h.below a,λd c=>⟨((b d c).1.below a).mono a.size,(b d c).2⟩,i⟩
theorem nM.block{q:Nat}{w w':World}(d:nM q w)(c:w'.heap[q]?=w.heap[q]?)(j:w.heap.size<=w'.heap.size):nM q w':=by
 obtain⟨⟨e,f,g,h⟩,⟨f0,f1,f2,f3⟩,i⟩:=d;have a:=λo=>bt c o;have b:∀o,w'.frozen? ⟨q,o,none⟩=w.frozen? ⟨q,o,none⟩:=λo=>by simp[World.frozen?,c]
 exact⟨⟨(a 0).trans e,(a 1).trans f,(a 2).trans g,(a 3).trans h⟩,⟨(b 0).trans f0,(b 1).trans f1,(b 2).trans f2,(b 3).trans f3⟩,aR i j⟩
theorem vb{w w':World}(a:w.grownBy w' none):aj w w':=⟨a.os,a.tape,a.output,a.size,λk b=>a.block k b (by simp)⟩
theorem yQ{w w':World}{s0 s1:Value}{t1 t2:TypeId}(f:((w.alloc (.cells #[s0,s1] t1)).alloc (.cells #[ab 0,ab 0,af .empty,ae none 0 0] t2)).grownBy w' none):aj w w'/\(w'.cell? ⟨w.heap.size,0,none⟩=some s0/\w'.cell? ⟨w.heap.size,1,none⟩=some s1)/\nM (w.heap.size+1) w':=by
 have a:=vb f;have g:=a.size;simp at g;have d:aj w ((w.alloc (.cells #[s0,s1] t1)).alloc (.cells #[ab 0,ab 0,af .empty,ae none 0 0] t2)):=((ap _ _).alloc (ak _) _).alloc (by simp) _;have e:=λo=>a.cell (p:=⟨w.heap.size,o,none⟩) (by simp;omega);have c:=λo=>a.cell (p:=⟨w.heap.size+1,o,none⟩) (by simp);have b:=λo=>a.frozen (p:=⟨w.heap.size+1,o,none⟩) (by simp)
 exact⟨d.trans (a.mono d.size),⟨(e 0).trans (by simp[go_sem]),(e 1).trans (by simp[go_sem])⟩,
  ⟨(c 0).trans (by simp[go_sem]),(c 1).trans (by simp[go_sem]),(c 2).trans (by simp[go_sem]),(c 3).trans (by simp[go_sem])⟩,⟨(b 0).trans (by simp[go_sem]),(b 1).trans (by simp[go_sem]),(b 2).trans (by simp[go_sem]),(b 3).trans (by simp[go_sem])⟩,by omega⟩
theorem Cz(m:Nat)(b:List (Tm m))(self:Int)(n:Nat)(ih:Hid (N9 m b self n))(p:List (Tm n))(len:Nat)(W:Hid (p.length=len))(pa:Option Addr)(pc:Nat)(a:Option Addr)(c B:Nat)(w:World)(aZ:len<=8)(V:Hid (fC B w n p pa))(a1:Hid (∀y∈p,aD ⟨n,y⟩))(aB:Hid (fC B w m b a))(H:B<=w.heap.size):am 201 #[.agg #[ae a 4 c,ab self],ae pa len pc] w (jW (m+n+1) ((cG (λy=>vl m b self n y) p).map (cY (m+n))) w):=by
 obtain⟨o,T⟩:∃o,o=(cG (λy=>vl m b self n y) p).map (cY (m+n)):=⟨_,rfl⟩;rw[<-T];have aw:=aq T;clear T;obtain⟨a3,aF,aM,aN,aO⟩:=bP gh;go_enter func201,ntmps201;go_wp2_with (at_make;refine kO _ rfl _ _ 26 rfl _ 28 a3 _ 4 underlying26 aF aM aN _ _ _ _ len rfl rfl rfl rfl (by rw[aO];omega) (by unfold maxLen;omega) (ak _) ?_;intro h aJ S;have t:=aq (qV (m+n) (wh (λy=>vl m b self n y) p) len aJ);have aT:=aq (vb S);have ay:=aq (yQ S);clear aJ S aF aM aN aO);have es:((w.alloc (.cells #[ae a 4 c,ab self] 270)).alloc (.cells #[ab 0,ab 0,af ⟨#[]⟩,ae none 0 0] 28)).heap.size=w.heap.size+1+1:=by simp
 rw[es]at t;clear es aT;obtain⟨aC,aE,D⟩:=ay.out
 have ao:Hid (aj w h/\(h.cell? ⟨w.heap.size,0,none⟩=some (ae a 4 c)/\h.cell? ⟨w.heap.size,1,none⟩=some (ab self))/\nM (w.heap.size+1) h/\NM (λy=>vl m b self n y) p 0/\∃l,uq (m+n) (wh (λy=>vl m b self n y) p) len (w.heap.size+1+1) 0 l h):=
  ⟨aC,aE,D,λs y bk _=>by omega,[],t.out⟩
 clear ay t aC aE D;go_wp2_with fail;go_loopw [16] (λs wr=>∃k:Nat,k<=len/\s=ab k/\Hid (aj w wr/\(wr.cell? ⟨w.heap.size,0,none⟩=some (ae a 4 c)/\wr.cell? ⟨w.heap.size,1,none⟩=some (ab self))/\nM (w.heap.size+1) wr/\NM (λy=>vl m b self n y) p k/\∃l,uq (m+n) (wh (λy=>vl m b self n y) p) len (w.heap.size+1+1) k l wr)) (λs _=>len-(intOf s).toNat)
 case atStart=>exact⟨0,by omega,rfl,ao.out⟩
 case round=>
  obtain⟨k,bl,rfl,ax⟩:=hrel;clear ao;obtain⟨i,⟨Z,aa⟩,G,x,l,j⟩:Hid (aj w wr)/\(wr.cell? ⟨w.heap.size,0,none⟩=some (ae a 4 c)/\wr.cell? ⟨w.heap.size,1,none⟩=some (ab self))/\Hid (nM (w.heap.size+1) wr)/\Hid (NM (λy=>vl m b self n y) p k)/\∃l,Hid (uq (m+n) (wh (λy=>vl m b self n y) p) len (w.heap.size+1+1) k l wr):=ax.out;clear ax;by_cases aI:k<len
  ·obtain⟨d,u⟩:∃d,p[k]?=some d:=⟨p[k]'(by rw[W.out];exact aI),aG _⟩;obtain⟨E,po,rfl,a0,aK⟩:∃E po,pa=some ⟨E,po,none⟩/\E<B/\∀(s:Nat)(y:Tm n),p[s]?=some y->dB w E (po+s*4) n y/\In B w n y:=by
    rcases V.out with P|P
    ·rw[P]at u;simp at u
    ·exact P
   obtain⟨I,J⟩:=aK k d u;have N:=aq u;have aV:=aq (a1.out d (aH u));replace I:=I.below (i.out.mono H) a0;replace J:=J.below (i.out.mono H);have Q:B<=wr.heap.size:=az H i.out.size
   have F:Hid (∀h,aj wr h->am 183 #[.agg #[ae a 4 c,ab self],df n d] h (jW (m+n) (vl m b self n d) h)):=
    λh g=>ih.out d a c B h (J.below (g.mono Q)) aV.out ((aB.out.below (i.out.mono H)).below (g.mono Q)) (az Q g.size)
   obtain⟨Y,U⟩:∃Y,Y=vl m b self n d:=⟨_,rfl⟩;rw[<-U]at F;have L:=aq U;clear aK u V U J;cases n with
   | zero=>exact I.elim
   | succ n=>
   obtain⟨ba,bb,bc,bd⟩:=I;have A:df (n+1) d=.agg #[ab d.1.1,ab d.1.2.1,af d.1.2.2,ae d.2.1.1 d.2.2.length d.2.1.2]:=rfl;rw[A]at F;clear A;generalize d.2.2.length=bp at*;have bm:(0:Int)<=(k:Int):=by omega
   have bn:(k:Int)<(len:Int):=by omega
   have bo:E<wr.heap.size:=by omega
   have aL:w.heap.size<wr.heap.size:=by have:=G.out.2.2;omega
   go_wp2_with fail;refine(F.out _ ((ap _ _).alloc (ak _) _)).mono ?_;rintro bi e ⟨y,a5,rfl,q⟩;have r:Hid (aj wr e):=((ap _ _).alloc (ak _) _).trans (q.out.1.mono (by simp));have aA:Hid (aj w e):=i.out.trans (r.out.mono i.out.size);have O:=aq (G.out.below r.out);replace Z:=(ar r.out _ _ aL).trans Z;replace aa:=(ar r.out _ _ aL).trans aa;have A:df (m+(n+1)) y=.agg #[ab y.1.1,ab y.1.2.1,af y.1.2.2,ae y.2.1.1 y.2.2.length y.2.1.2]:=rfl;rw[A];clear F ba bb bc bd G A;cases a5
   ·have K:Hid (o=none):=by
      have g:vl m b self (n+1) d=none:=by
       have:=q.out.2.2.2.1;rw[<-L.out];cases Y with
       | none=>rfl
       | some ad=>cases this
      show o=none;rw[aw.out,lX _ p k d N.out g];rfl
    obtain⟨⟨ag,ah,ai,al⟩,⟨f0,f1,f2,f3⟩,aQ⟩:=O.out;clear q j x;go_wp2_with fail;rw[K.out];exact av (v:=.tuple #[.agg #[ab 0,ab 0,af .empty,ae none 0 0],.bool false]) (by simp[results,results201,go_sem,ag,ah,ai,al,aQ];rfl) rfl (kF ((cX aA.out (by omega) _ _ _ _).alloc (by rw[bq];omega) _))
   ·have R:true=(vl m b self (n+1) d).isSome:=by rw[<-L.out];exact q.out.2.2.2.1
    obtain⟨ad,D,aP⟩:=Ny (f:=λy=>vl m b self (n+1) y) N.out R;have au:=aq (x.out.next N.out R);have t:=aq (j.out.step aI ad D r.out y q.out.2.1 (q.out.2.2.1.mono λaS X=>by have:=j.out.2.1.lt.2;simp at X;omega) (q.out.2.2.2.2 ad (by rw[L.out];exact aP)));have z:=aq (j.out.2.1.below r.out);have M:Hid (aj w (jv e (w.heap.size+1+1) (k*4) (gg (m+(n+1)) y))):=by
     have g:=aA.out;exact⟨g.os,g.tape,g.output,az g.size (dz (bq _ _ _ _).symm),λaS X=>(aW (by omega) _ _ _ _).trans (g.block aS X)⟩
    have aU:Hid (∀o:Obj,aj w ((jv e (w.heap.size+1+1) (k*4) (gg (m+(n+1)) y)).alloc o)/\(((jv e (w.heap.size+1+1) (k*4) (gg (m+(n+1)) y)).alloc o).cell? ⟨w.heap.size,0,none⟩=some (ae a 4 c)/\((jv e (w.heap.size+1+1) (k*4) (gg (m+(n+1)) y)).alloc o).cell? ⟨w.heap.size,1,none⟩=some (ab self))/\nM (w.heap.size+1) ((jv e (w.heap.size+1+1) (k*4) (gg (m+(n+1)) y)).alloc o)/\NM (λy=>vl m b self (n+1) y) p (k+1)/\∃l,uq (m+(n+1)) (wh (λy=>vl m b self (n+1) y) p) len (w.heap.size+1+1) (k+1) l ((jv e (w.heap.size+1+1) (k*4) (gg (m+(n+1)) y)).alloc o)):=by
     intro o;have C:Below (jv e (w.heap.size+1+1) (k*4) (gg (m+(n+1)) y)).heap.size (jv e (w.heap.size+1+1) (k*4) (gg (m+(n+1)) y)) ((jv e (w.heap.size+1+1) (k*4) (gg (m+(n+1)) y)).alloc o):=(ap _ _).alloc (ak _) _;have a2:(jv e (w.heap.size+1+1) (k*4) (gg (m+(n+1)) y)).heap.size=e.heap.size:=bq _ _ _ _;have aY:=z.out.lt.2;refine⟨M.out.trans (C.mono M.out.size),⟨?_,?_⟩,?_,au.out,l++ [y],t.out.grow C⟩
     ·exact(ar C _ _ (by omega)).trans ((bt (aW (by omega) _ _ _ _) _).trans Z)
     ·exact(ar C _ _ (by omega)).trans ((bt (aW (by omega) _ _ _ _) _).trans aa)
     ·refine nM.below ?_ C;exact O.out.block (aW (by omega) _ _ _ _) (dz a2.symm)
    obtain⟨an,aR⟩:∃an,(l.map (λd=>(⟨m+(n+1),d⟩:An))++List.replicate (len-k) zA)[k]?=some an:=⟨_,aG (by simp[j.out.1];omega)⟩;obtain⟨be,bf,bg,bh⟩:=z.out.cells k an aR;have bj:=λa4=>z.out.free a4;have aY:w.heap.size+1+1<e.heap.size:=z.out.lt.2;clear q j x r i t au M z aR O D aP R;go_wp2_with fail;go_roundw
    case rel=>exact⟨k+1,by omega,by go_num,aU.out _⟩
    case measure=>simp[intOf];omega
  ·obtain rfl:k=len:=by omega
   have K:Hid (o=some (cY (m+n) (wh (λy=>vl m b self n y) p))):=by
    show o=_;rw[aw.out,LA x.out (by rw[W.out];exact ak _)];rfl
   have aX:=λa6 a7 a8 a9=>aq (IP j.out (by rw[LB];exact W.out) rfl i.out aZ (w.heap.size+1) (by omega) (by omega) a6 a7 a8 a9);obtain⟨⟨ag,ah,ai,al⟩,⟨f0,f1,f2,f3⟩,aQ⟩:=G.out;clear x j i V aB;go_wp2_with fail;rw[K.out];exact av (v:=.tuple #[.agg #[ab 4,ab 0,af .empty,ae (some ⟨w.heap.size+1+1,0,none⟩) k k],.bool true]) (by simp[results,results201,go_sem,ag,ah,ai,al];rfl) rfl (aX _ _ _ _).out
theorem BB{P:Nat->Prop}:(N n:Nat)->n<=N->(x:Tm n)->cd P n x->cd P N (aS N n x)
 | _,0,_,_,k=>k.elim
 | 0,n+1,h,_,_=>by omega
 | N+1,n+1,h,x,k=>by
  rcases k with k|⟨b,o,e,d,k⟩
  ·exact ah (by simp[aS,k])
  ·refine ai ⟨b,o,e,d,λi y a=>?_⟩;simp only[aS,dn]at a;obtain⟨c,f,rfl⟩:=ci.1 a;exact BB N n (by omega) c (k i c f)
theorem Ks(N n:Nat)(x:Tm (n+1)):df (N+1) (aS (N+1) (n+1) x)=df (n+1) x:=by simp[df,aS]
theorem Kr{N n:Nat}(d:n<=N){x y:Tm (n+1)}(a:aD ⟨n+1,x⟩)(b:ay (n+1) y (n+1) x=true):ay (N+1) (aS (N+1) (n+1) y) (N+1) (aS (N+1) (n+1) x)=true:=by
 have c:aD ⟨n+1,y⟩:=aL.2 (by rw[jy _ _ _ _ b];exact aL.1 a);exact bH _ _ _ _ _ _ (fx (N+1) (n+1) (by omega) y c) (bH _ _ _ _ _ _ b (dJ _ _ _ _ (fx (N+1) (n+1) (by omega) x a)))
theorem IX{N n:Nat}(b:n<=N){x y:Tm (n+1)}{w w':World}(f:aD ⟨n+1,x⟩)(c:aj w w')(d:In w'.heap.size w' (n+1) y)(e:cd (λq=>w.heap.size<=q) (n+1) y)(g:ay (n+1) y (n+1) x=true)(r:Bool):jW (N+1) (if r then some (aS (N+1) (n+1) x)else none) w (.returned (.tuple #[.agg #[ab y.1.1,ab y.1.2.1,af y.1.2.2,ae y.2.1.1 y.2.2.length y.2.1.2],.bool r])) w':=by
 refine⟨aS (N+1) (n+1) y,r,by rw[Ks];rfl,c,oT _ _ (by omega) _ _ _ d,BB _ _ (by omega) _ e,by cases r<;>rfl,λh a=>?_⟩;cases r with
 | false=>cases a
 | true=>
  obtain rfl:=aw a;exact Kr b f g
theorem wj{N:Nat}{o:Option (Tm (N+1))}{w w1 w2:World}{y:Tm (N+1)}{r:Bool}{q:Nat}(c:aj w w1)(k:w.heap.size<=q)(m:q<w1.heap.size)(e:aj w1 w2/\In w2.heap.size w2 (N+1) y/\cd (λq=>w1.heap.size<=q) (N+1) y/\r=o.isSome/\∀d,o=some d->ay (N+1) y (N+1) d=true)(v0 v1 v2 v3:Value):jW (N+1) o w (.returned (.tuple #[.agg #[ab y.1.1,ab y.1.2.1,af y.1.2.2,ae y.2.1.1 y.2.2.length y.2.1.2],.bool r])) (cW w2 q 0 v0 v1 v2 v3):=by
 obtain⟨f,g,a,h,i⟩:=e;have l:=c.size;refine⟨y,r,rfl,cX (c.trans (f.mono l)) k _ _ _ _,?_,a.mono λb j=>by omega,h,i⟩;rw[bq];exact In.off (P:=λb=>w1.heap.size<=b) (λb j=>aW (by omega) _ _ _ _) a g
theorem wk{N n:Nat}(h:n<=N){x y:Tm (n+1)}{w w1 w2 g:World}{q:Nat}(p:aD ⟨n+1,x⟩)(e:aj w w1)(o:w.heap.size<=q)(s:q<w1.heap.size)(k:aj w1 w2/\In w2.heap.size w2 (n+1) y/\cd (λq=>w1.heap.size<=q) (n+1) y/\ay (n+1) y (n+1) x=true)(a:aj w2 g)(r:Bool)(v0 v1 v2 v3:Value):jW (N+1) (if r then some (aS (N+1) (n+1) x)else none) w (.returned (.tuple #[.agg #[ab y.1.1,ab y.1.2.1,af y.1.2.2,ae y.2.1.1 y.2.2.length y.2.1.2],.bool r])) (cW g q 0 v0 v1 v2 v3):=by
 obtain⟨c,i,d,j⟩:=k;have f:=e.size;have l:=(e.trans (c.mono f)).trans (a.mono (az f c.size));refine IX h p (cX l o _ _ _ _) ?_ (d.mono λb m=>by omega) j r;rw[bq];exact In.off (P:=λb=>w1.heap.size<=b) (λb m=>aW (by omega) _ _ _ _) d ((i.below a).mono a.size)
theorem Am{w:World}{s0 s1:Value}{t1 t2:TypeId}:aj w ((w.alloc (.cells #[s0,s1] t1)).alloc (.cells #[ab 0,ab 0,af .empty,ae none 0 0] t2))/\nM (w.heap.size+1) ((w.alloc (.cells #[s0,s1] t1)).alloc (.cells #[ab 0,ab 0,af .empty,ae none 0 0] t2)):=by
 have a:=yQ (w:=w) (s0:=s0) (s1:=s1) (t1:=t1) (t2:=t2) (w':=(w.alloc (.cells #[s0,s1] t1)).alloc (.cells #[ab 0,ab 0,af .empty,ae none 0 0] t2)) (gB _ _);exact⟨a.1,a.2.2⟩
theorem Ao{w w1:World}{s0 s1:Value}{t1 t2:TypeId}(a:w1=(w.alloc (.cells #[s0,s1] t1)).alloc (.cells #[ab 0,ab 0,af .empty,ae none 0 0] t2)):aj w w1/\nM (w.heap.size+1) w1/\w1.cell? ⟨w.heap.size,0,none⟩=some s0/\w1.cell? ⟨w.heap.size,1,none⟩=some s1:=by
 subst a;have a:=yQ (w:=w) (s0:=s0) (s1:=s1) (t1:=t1) (t2:=t2) (w':=(w.alloc (.cells #[s0,s1] t1)).alloc (.cells #[ab 0,ab 0,af .empty,ae none 0 0] t2)) (gB _ _);exact⟨a.1,a.2.2,a.2.1.1,a.2.1.2⟩
theorem NB(N:Nat)(o:Option (Tm (N+1)))(a:Option Addr)(c:Nat)(self:Int)(j:dt self)(pa:Option Addr)(len:Nat)(pc:Nat)(w:World)(d:Hid (∀w1,aj w w1->am 199 #[ae pa len pc,af pT,ab 0] w1 λe w'=>e=.returned (.bool true)/\w'=w1))(i:Hid (o=some (bR 3 self N))):am 193 #[.agg #[ae a 4 c,ab self],ae pa len pc] w (jW (N+1) o w):=by
 go_enter func193,ntmps193;go_wp2_with fail;refine(d _ Am.1).mono ?_;rintro e w1 ⟨rfl,g⟩;obtain⟨f,b,r,s⟩:=Ao g;have HB:=aq f;have h:=aq b;have p:w.heap.size<w1.heap.size:=by have:=b.2.2;omega
 clear g f b d;obtain⟨⟨k,l,m,n⟩,⟨f0,f1,f2,f3⟩,q⟩:=h;go_wp2_with fail;rw[i.out];exact av (v:=.tuple #[.agg #[ab 3,ab self,af .empty,ae none 0 0],.bool true]) (by simp[results,results193,go_sem,k,l,m,n];rfl) rfl (yx (cX HB (by omega) _ _ _ _) 3 self (by simp[dt]) j)
theorem O7(N:Nat)(o:Option (Tm (N+1)))(a:Option Addr)(c:Nat)(self:Int)(b po:Nat)(j k:Int)(l:ByteArray)(xa:Option Addr)(m xc:Nat)(y0 y1:Int)(y2:ByteArray)(ya:Option Addr)(yl yc:Nat)(pc:Nat)(w:World)(p:Hid (∀w1,aj w w1->am 199 #[ae (some ⟨b,po,none⟩) 3 pc,af pT,ab 0] w1 λe w'=>e=.returned (.bool false)/\w'=w1))(D:Hid (∀w1,aj w w1->am 199 #[ae (some ⟨b,po,none⟩) 3 pc,af wm,ab 2] w1 λe w'=>e=.returned (.bool true)/\w'=w1))(g:b<w.heap.size)(G:w.cell? ⟨b,po+4,none⟩=some (ab j)/\w.cell? ⟨b,po+4+1,none⟩=some (ab k)/\w.cell? ⟨b,po+4+2,none⟩=some (af l)/\w.cell? ⟨b,po+4+3,none⟩=some (ae xa m xc))(H:w.cell? ⟨b,po+8,none⟩=some (ab y0)/\w.cell? ⟨b,po+8+1,none⟩=some (ab y1)/\w.cell? ⟨b,po+8+2,none⟩=some (af y2)/\w.cell? ⟨b,po+8+3,none⟩=some (ae ya yl yc))(E:Hid (∀w1,aj w w1->am 200 #[.agg #[ae a 4 c,ab self],.agg #[ab j,ab k,af l,ae xa m xc],.agg #[ab y0,ab y1,af y2,ae ya yl yc]] w1 (jW (N+1) o w1))):am 193 #[.agg #[ae a 4 c,ab self],ae (some ⟨b,po,none⟩) 3 pc] w (jW (N+1) o w):=by
 go_enter func193,ntmps193;go_wp2_with fail;refine(p _ Am.1).mono ?_;rintro e w1 ⟨rfl,r⟩;obtain⟨q,i,Z,aa⟩:=Ao r;have HB:=aq q;have n:=aq i;have X:w.heap.size<w1.heap.size:=by have:=i.2.2;omega
 clear r q i p;have f:=ar HB;obtain⟨s,t,u,x⟩:=G;obtain⟨y,z,A,B⟩:=H;replace s:=(f _ _ g).trans s;replace t:=(f _ _ g).trans t;replace u:=(f _ _ g).trans u;replace x:=(f _ _ g).trans x;replace y:=(f _ _ g).trans y;replace z:=(f _ _ g).trans z;replace A:=(f _ _ g).trans A;replace B:=(f _ _ g).trans B;clear f;go_wp2_with fail;refine(D _ HB).mono ?_;rintro e P ⟨rfl,rfl⟩;have W:b<P.heap.size:=aR g HB.size;have U:¬(w.heap.size+1=b):=by omega
 have V:¬(b=w.heap.size+1):=by omega
 have I:∀d:Tm (N+1),df (N+1) d=.agg #[ab d.1.1,ab d.1.2.1,af d.1.2.2,ae d.2.1.1 d.2.2.length d.2.1.2]:=λ_=>rfl;go_wp2_with fail
 go_region_held3 (λw'=>w'.cell? ⟨w.heap.size,0,none⟩=some (ae a 4 c)/\w'.cell? ⟨w.heap.size,1,none⟩=some (ab self)/\w'.cell? ⟨b,po+4,none⟩=some (ab j)/\w'.cell? ⟨b,po+4+1,none⟩=some (ab k)/\w'.cell? ⟨b,po+4+2,none⟩=some (af l)/\w'.cell? ⟨b,po+4+3,none⟩=some (ae xa m xc)
     /\w'.cell? ⟨b,po+8,none⟩=some (ab y0)/\w'.cell? ⟨b,po+8+1,none⟩=some (ab y1)/\w'.cell? ⟨b,po+8+2,none⟩=some (af y2)/\w'.cell? ⟨b,po+8+3,none⟩=some (ae ya yl yc))
  (go_keep) ((go_at_call 200;refine(E _ HB.drew).mono ?_;rintro e ad ⟨d,J,rfl,h⟩;rw[I];have f:=ar (cH h.1);have C:=aq (n.below (cH h.1));obtain⟨⟨Q,R,S,T⟩,⟨f0,f1,f2,f3⟩,Y⟩:=C))
 have F:=λK L M O=>aq (wj HB.drew (gT _ 1) n.2.2 h K L M O);clear h f;go_wp2_with fail;exact av (v:=.tuple #[.agg #[ab d.1.1,ab d.1.2.1,af d.1.2.2,ae d.2.1.1 d.2.2.length d.2.1.2],.bool J]) (by simp[results,results193,go_sem,Q,R,S,T]) rfl (F _ _ _ _)
theorem O8(N:Nat)(o:Option (Tm (N+1)))(a:Option Addr)(c:Nat)(self:Int)(b po:Nat)(n:Nat)(L:n<=N)(x:Tm (n+1))(cl:Bool)(pc:Nat)(w:World)(l:Hid (∀w1,aj w w1->am 199 #[ae (some ⟨b,po,none⟩) 2 pc,af pT,ab 0] w1 λe w'=>e=.returned (.bool false)/\w'=w1))(C:Hid (∀w1,aj w w1->am 199 #[ae (some ⟨b,po,none⟩) 2 pc,af wm,ab 2] w1 λe w'=>e=.returned (.bool false)/\w'=w1))(D:Hid (∀w1,aj w w1->am 199 #[ae (some ⟨b,po,none⟩) 2 pc,af CG,ab 1] w1 λe w'=>e=.returned (.bool true)/\w'=w1))(f:b<w.heap.size)(M:dB w b (po+4) (n+1) x)(H:Hid (aD ⟨n+1,x⟩))(G:Hid (∀w1,aj w w1->am 24 #[.agg #[ab x.1.1,ab x.1.2.1,af x.1.2.2,ae x.2.1.1 x.2.2.length x.2.1.2]] w1 λe w'=>∃y:Tm (n+1),e=.returned (df (n+1) y)/\Hid (aj w1 w'/\In w'.heap.size w' (n+1) y/\cd (λq=>w1.heap.size<=q) (n+1) y/\ay (n+1) y (n+1) x=true)))(E:Hid (∀w1,aj w w1->am 75 #[.agg #[ab x.1.1,ab x.1.2.1,af x.1.2.2,ae x.2.1.1 x.2.2.length x.2.1.2]] w1 λe w'=>e=.returned (.bool cl)/\aj w1 w'))(F:Hid (o=if cl then some (aS (N+1) (n+1) x)else none)):am 193 #[.agg #[ae a 4 c,ab self],ae (some ⟨b,po,none⟩) 2 pc] w (jW (N+1) o w):=by
 go_enter func193,ntmps193;go_wp2_with fail;refine(l _ Am.1).mono ?_;rintro e w1 ⟨rfl,p⟩;obtain⟨m,i,ah,ai⟩:=Ao p;have HB:=aq m;have k:=aq i;have ad:w.heap.size<w1.heap.size:=by have:=i.2.2;omega
 clear p m i l;have d:=ar HB;obtain⟨t,u,z,A⟩:=M;replace t:=(d _ _ f).trans t;replace u:=(d _ _ f).trans u;replace z:=(d _ _ f).trans z;replace A:=(d _ _ f).trans A;clear d;generalize x.2.2.length=S at*;go_wp2_with fail;refine(C _ HB).mono ?_;rintro e r ⟨rfl,rfl⟩;go_wp2_with fail;refine(D _ HB).mono ?_;rintro e r ⟨rfl,rfl⟩;have Z:b<r.heap.size:=aR f HB.size;have X:¬(w.heap.size+1=b):=by omega
 have Y:¬(b=w.heap.size+1):=by omega
 have J:∀y:Tm (n+1),df (n+1) y=.agg #[ab y.1.1,ab y.1.2.1,af y.1.2.2,ae y.2.1.1 y.2.2.length y.2.1.2]:=λ_=>rfl;go_wp2_with fail
 go_region_held3 (λw'=>w'.cell? ⟨b,po+4,none⟩=some (ab x.1.1)/\w'.cell? ⟨b,po+4+1,none⟩=some (ab x.1.2.1)/\w'.cell? ⟨b,po+4+2,none⟩=some (af x.1.2.2)/\w'.cell? ⟨b,po+4+3,none⟩=some (ae x.2.1.1 S x.2.1.2))
  (go_keep) ((first|(go_at_call 24;refine(G _ HB.drew).mono ?_;rintro e s ⟨y,rfl,g⟩;rw[J];have d:=ar (cH g.1);have j:Hid (aj w s):=(HB.drew).trans (g.1.mono HB.size))|(go_at_call 75;refine(E _ j).mono ?_;rintro e ak ⟨rfl,h⟩;have K:=ar h;have aa:b<s.heap.size:=aR f j.size;have B:=aq ((k.below (cH g.1)).below h);obtain⟨⟨T,U,V,W⟩,⟨f0,f1,f2,f3⟩,ag⟩:=B)))
 have I:=λO P Q R=>aq (wk L H HB.drew (gT _ 1) k.2.2 g h cl O P Q R);clear g d K h;go_wp2_with fail;rw[F.out];exact av (v:=.tuple #[.agg #[ab y.1.1,ab y.1.2.1,af y.1.2.2,ae y.2.1.1 y.2.2.length y.2.1.2],.bool cl]) (by simp[results,results193,go_sem,T,U,V,W]) rfl (I _ _ _ _)
theorem Nz(N:Nat)(o:Option (Tm (N+1)))(a:Option Addr)(c:Nat)(self:Int)(pa:Option Addr)(len:Nat)(pc:Nat)(w:World)(h:Hid (∀w1,aj w w1->am 199 #[ae pa len pc,af pT,ab 0] w1 λe w'=>e=.returned (.bool false)/\w'=w1))(i:Hid (∀w1,aj w w1->am 199 #[ae pa len pc,af wm,ab 2] w1 λe w'=>e=.returned (.bool false)/\w'=w1))(j:Hid (∀w1,aj w w1->am 199 #[ae pa len pc,af CG,ab 1] w1 λe w'=>e=.returned (.bool false)/\w'=w1))(k:Hid (∀w1,aj w w1->am 201 #[.agg #[ae a 4 c,ab self],ae pa len pc] w1 (jW (N+1) o w1))):am 193 #[.agg #[ae a 4 c,ab self],ae pa len pc] w (jW (N+1) o w):=by
 go_enter func193,ntmps193;go_wp2_with fail;refine(h _ Am.1).mono ?_;rintro e w1 ⟨rfl,n⟩;obtain⟨m,f,F,G⟩:=Ao n;have HB:=aq m;have g:=aq f;have D:w.heap.size<w1.heap.size:=by have:=f.2.2;omega
 clear n m f h;go_wp2_with fail;refine(i _ HB).mono ?_;rintro e y ⟨rfl,rfl⟩;go_wp2_with fail;refine(j _ HB).mono ?_;rintro e y ⟨rfl,rfl⟩;go_wp2_with fail;refine(k _ HB).mono ?_;rintro e H ⟨b,r,rfl,d⟩;have p:=aq (g.below d.1);have q:=λs t u x=>aq (wj HB (gT _ 1) g.2.2 d s t u x);obtain⟨⟨z,A,B,C⟩,⟨f0,f1,f2,f3⟩,E⟩:=p;have l:df (N+1) b=.agg #[ab b.1.1,ab b.1.2.1,af b.1.2.2,ae b.2.1.1 b.2.2.length b.2.1.2]:=rfl;rw[l];clear d k i j l;go_wp2_with fail;exact av (v:=.tuple #[.agg #[ab b.1.1,ab b.1.2.1,af b.1.2.2,ae b.2.1.1 b.2.2.length b.2.1.2],.bool r]) (by simp[results,results193,go_sem,z,A,B,C]) rfl (q _ _ _ _)
theorem ik(w:World)(s0 s1 a b c d:Value)(t1 t2 t3:TypeId):aj w (((w.alloc (.cells #[s0,s1] t1)).alloc (.cells #[a,b,c,d] t2)).alloc (.cells #[ab 0,ab 0,af .empty,ae none 0 0] t3))/\ nM (w.heap.size+1+1) (((w.alloc (.cells #[s0,s1] t1)).alloc (.cells #[a,b,c,d] t2)).alloc (.cells #[ab 0,ab 0,af .empty,ae none 0 0] t3)):=by
 refine⟨(((ap _ _).alloc (ak _) _).alloc (by simp) _).alloc (by simp;omega) _,⟨?_,?_,?_,?_⟩,⟨?_,?_,?_,?_⟩,?_⟩<;>simp[go_sem]
theorem MC{w W:World}{s0 s1 c d e f y0 y1 y2 a:Value}{t1 t2 t3 t4:TypeId}(b:(((w.alloc (.cells #[s0,s1] t1)).alloc (.cells #[c,d,e,f] t2)).alloc (.cells #[ab 0,ab 0,af .empty,ae none 0 0] t3)).alloc (.cells #[y0,y1,y2,a] t4)=W):aj w W/\nM (w.heap.size+1+1) W/\ (W.cell? ⟨w.heap.size+1+1+1,0,none⟩=some y0/\W.cell? ⟨w.heap.size+1+1+1,1,none⟩=some y1/\W.cell? ⟨w.heap.size+1+1+1,2,none⟩=some y2/\W.cell? ⟨w.heap.size+1+1+1,3,none⟩=some a)/\w.heap.size+1+1+1<W.heap.size:=by
 subst b;refine⟨nr _ _ _ _ _,⟨⟨?_,?_,?_,?_⟩,⟨?_,?_,?_,?_⟩,?_⟩,⟨?_,?_,?_,?_⟩,?_⟩<;>simp[go_sem]
theorem PH(N:Nat)(o:Option (Tm (N+1)))(a:Option Addr)(d:Int)(e:ByteArray)(xa:Option Addr)(f xc:Nat)(c:Nat)(self:Int)(w:World)(b:Hid (o=none)):am 183 #[.agg #[ae a 4 c,ab self],.agg #[ab 6,ab d,af e,ae xa f xc]] w (jW (N+1) o w):=by
 go_enter func183,ntmps183;go_wp2_with fail;rw[b.out];exact av (v:=.tuple #[.agg #[ab 0,ab 0,af .empty,ae none 0 0],.bool false]) (by simp[results,results183,go_sem];rfl) rfl (kF (ik w _ _ _ _ _ _ _ _ _).1)
theorem PI(N:Nat)(o:Option (Tm (N+1)))(a:Option Addr)(p:Int)(q:ByteArray)(xa:Option Addr)(g xc:Nat)(c:Nat)(self:Int)(w:World)(e:Hid (∀w1,aj w w1->am 193 #[.agg #[ae a 4 c,ab self],ae xa g xc] w1 (jW (N+1) o w1))):am 183 #[.agg #[ae a 4 c,ab self],.agg #[ab 4,ab p,af q,ae xa g xc]] w (jW (N+1) o w):=by
 go_enter func183,ntmps183;go_wp2_with fail;refine(e _ (ik w _ _ _ _ _ _ _ _ _).1).mono ?_;rintro x z ⟨b,j,rfl,d⟩;have h:=aq ((ik w _ _ _ _ _ _ _ _ _).2.below d.1);have i:=λk l m n=>aq (wj (ik w _ _ _ _ _ _ _ _ _).1 (gT w.heap.size 2) (ik w _ _ _ _ _ _ _ _ _).2.2.2 d k l m n);obtain⟨⟨r,s,t,u⟩,⟨f0,f1,f2,f3⟩,y⟩:=h;have f:df (N+1) b=.agg #[ab b.1.1,ab b.1.2.1,af b.1.2.2,ae b.2.1.1 b.2.2.length b.2.1.2]:=rfl;rw[f];clear d e f;go_wp2_with fail;exact av (v:=.tuple #[.agg #[ab b.1.1,ab b.1.2.1,af b.1.2.2,ae b.2.1.1 b.2.2.length b.2.1.2],.bool j]) (by simp[results,results183,go_sem,r,s,t,u]) rfl (i _ _ _ _)
theorem O3(N:Nat)(o:Option (Tm (N+1)))(a:Option Addr)(b:Int)(h:Int)(i:ByteArray)(xa:Option Addr)(j xc:Nat)(n:Nat)(r:n<=N)(x:Tm (n+1))(c:Nat)(self:Int)(w:World)(E:¬b=4)(F:¬b=5)(G:¬b=6)(m:Hid (aD ⟨n+1,x⟩))(f:Hid (∀w1,aj w w1->am 24 #[.agg #[ab b,ab h,af i,ae xa j xc]] w1 λe w'=>∃y:Tm (n+1),e=.returned (df (n+1) y)/\Hid (aj w1 w'/\In w'.heap.size w' (n+1) y/\cd (λq=>w1.heap.size<=q) (n+1) y/\ay (n+1) y (n+1) x=true)))(l:Hid (o=some (aS (N+1) (n+1) x))):am 183 #[.agg #[ae a 4 c,ab self],.agg #[ab b,ab h,af i,ae xa j xc]] w (jW (N+1) o w):=by
 go_enter func183,ntmps183;go_wp2_with fail;refine(f _ (ik w _ _ _ _ _ _ _ _ _).1).mono ?_;rintro e I ⟨y,rfl,d⟩;have k:=aq ((ik w _ _ _ _ _ _ _ _ _).2.below d.1);have p:=λs t u z=>aq (wk r m (ik w _ _ _ _ _ _ _ _ _).1 (gT w.heap.size 2) (ik w _ _ _ _ _ _ _ _ _).2.2.2 d (ap _ _) true s t u z);obtain⟨⟨A,B,C,D⟩,⟨f0,f1,f2,f3⟩,H⟩:=k;have g:df (n+1) y=.agg #[ab y.1.1,ab y.1.2.1,af y.1.2.2,ae y.2.1.1 y.2.2.length y.2.1.2]:=rfl;rw[g];clear d f g;go_wp2_with fail;rw[l.out];exact av (v:=.tuple #[.agg #[ab y.1.1,ab y.1.2.1,af y.1.2.2,ae y.2.1.1 y.2.2.length y.2.1.2],.bool true]) (by simp[results,results183,go_sem,A,B,C,D]) rfl (p _ _ _ _)
theorem PJ(N:Nat)(o:Option (Tm (N+1)))(b bo:Nat)(k:Nat)(l:Int)(M:ByteArray)(xa:Option Addr)(Q xc:Nat)(n:Nat)(E:n<=N)(x:Tm (n+1))(c:Nat)(self:Int)(w:World)(A:l=(k:Int))(ak:k<4)(ai:b<w.heap.size)(F:dB w b (bo+k*4) (n+1) x)(t:Hid (aD ⟨n+1,x⟩))(s:Hid (∀w1,aj w w1->am 24 #[.agg #[ab x.1.1,ab x.1.2.1,af x.1.2.2,ae x.2.1.1 x.2.2.length x.2.1.2]] w1 λe w'=>∃y:Tm (n+1),e=.returned (df (n+1) y)/\Hid (aj w1 w'/\In w'.heap.size w' (n+1) y/\cd (λq=>w1.heap.size<=q) (n+1) y/\ay (n+1) y (n+1) x=true)))(p:Hid (∀w1,am 188 #[.agg #[ab x.1.1,ab x.1.2.1,af x.1.2.2,ae x.2.1.1 x.2.2.length x.2.1.2]] w1 λe w'=>e=.returned (.bool (!(x.1.1==6)))/\aj w1 w'))(r:Hid (o=if (!(x.1.1==6))=true then some (aS (N+1) (n+1) x)else none)):am 183 #[.agg #[ae (some ⟨b,bo,none⟩) 4 c,ab self],.agg #[ab 5,ab l,af M,ae xa Q xc]] w (jW (N+1) o w):=by
 go_enter func183,ntmps183;obtain⟨K,L,O,P⟩:=F;subst A;generalize x.2.2.length=R at*;generalize (!(x.1.1==6))=cl at*;have al:(0:Int)<=(k:Int):=by omega
 have an:(k:Int)<4:=by omega
 have ag:b<w.heap.size+1:=by omega
 have ah:b<w.heap.size+1+1:=by omega
 go_wp2_with fail;generalize i:World.alloc (World.alloc (World.alloc (World.alloc w _) _) _) _=X;obtain⟨g,h,⟨Y,Z,aa,ad⟩,B⟩:=MC i;have HB:=aq g;have f:=aq h;clear i g h K L O P;have z:∀y:Tm (n+1),df (n+1) y=.agg #[ab y.1.1,ab y.1.2.1,af y.1.2.2,ae y.2.1.1 y.2.2.length y.2.1.2]:=λ_=>rfl
 go_region_held3 (λw'=>w'.cell? ⟨w.heap.size+1+1+1,0,none⟩=some (ab x.1.1)/\w'.cell? ⟨w.heap.size+1+1+1,1,none⟩=some (ab x.1.2.1)/\w'.cell? ⟨w.heap.size+1+1+1,2,none⟩=some (af x.1.2.2)/\w'.cell? ⟨w.heap.size+1+1+1,3,none⟩=some (ae x.2.1.1 R x.2.1.2))
  (go_keep) ((first|(go_at_call 24;refine(s _ HB.drew).mono ?_;rintro e j ⟨y,rfl,a⟩;rw[z];have C:=ar (cH a.1);have W:Hid (aj w j):=(HB.drew).trans (a.1.mono HB.size);have ao:w.heap.size+1+1+1<j.heap.size:=aR B a.1.size)|(go_at_call 188;refine(p _).mono ?_;rintro e au ⟨rfl,d⟩;have D:=ar d;have m:=aq ((f.below (cH a.1)).below d);obtain⟨⟨S,T,U,V⟩,⟨f0,f1,f2,f3⟩,ap⟩:=m)))
 have u:=λG H I J=>aq (wk E t HB.drew (gT w.heap.size 2) f.2.2 a d cl G H I J);clear a C D d;go_wp2_with fail;rw[r.out];exact av (v:=.tuple #[.agg #[ab y.1.1,ab y.1.2.1,af y.1.2.2,ae y.2.1.1 y.2.2.length y.2.1.2],.bool cl]) (by simp[results,results183,go_sem,S,T,U,V]) rfl (u _ _ _ _)
def wY(m n:Nat)(self:Int)(f:Tm n->Option (Tm (m+n)))(p:List (Tm n)):Option (Tm (m+n+1)):=
 if ua n p pT 0 then some (bR 3 self (m+n))
 else if ua n p wm 2 then (p[1]?).bind λa=>(p[2]?).bind λc=>(f a).bind λa=>(f c).bind λc=>tR (m+n) a c
 else if ua n p CG 1 then (p[1]?).bind λa=>if aK n a then some (aS (m+n+1) n a)else none
 else (cG f p).map (cY (m+n))
theorem LG(m:Nat)(b:List (Tm m))(self:Int)(n:Nat)(x:Tm (n+1))(a:x.1.1=4):vl m b self (n+1) x=wY m n self (λy=>vl m b self n y) x.2.2:=by simp[vl,a,wY]
theorem LF(m:Nat)(b:List (Tm m))(self:Int)(n:Nat)(x:Tm (n+1))(a:x.1.1=6):vl m b self (n+1) x=none:=by simp[vl,a]
theorem FN(m:Nat)(b:List (Tm m))(self:Int)(n:Nat)(x:Tm (n+1))(a:x.1.1≠4)(c:x.1.1≠5)(d:x.1.1≠6):vl m b self (n+1) x=some (aS (m+n+1) (n+1) x):=by simp[vl,a,c,d]
theorem O6(m:Nat)(b:List (Tm m))(self:Int)(n:Nat)(x:Tm (n+1))(y:Tm m)(k:Nat)(a:x.1.1=5)(c:x.1.2.1=(k:Int))(d:b[k]?=some y):vl m b self (n+1) x=if bU ⟨m,y⟩=6 then none else some (aS (m+n+1) m y):=by
 simp[vl,a,c,d]
theorem Bq{n:Nat}{p:List (Tm n)}{s:ByteArray}{k:Nat}(a:ua n p s k=true):p.length=1+k:=by
 by_cases b:p.length=1+k
 ·exact b
 ·rw[Fq b]at a;cases a
theorem Kt{N:Nat}{o:Option (Tm N)}(d:∀a,o=some a->aD ⟨N,a⟩):Pl o:=by
 intro a g e;have c:=d a g;cases N with
 | zero=>exact(dh c).elim
 | succ N=>
  have b:=c (bw N a) (by simp[ax,bw]);have f:a.1.1=1:=e;simp only[cg,bw,f,oe,aA,cF]at b;exact⟨ft b.1.2.1,ft b.1.2.2⟩
theorem EF(m:Nat)(b:List (Tm m))(self:Int)(O:ge m b=true)(N:1<=self/\self<=99)(n:Nat)(ih:N9 m b self n)(p:List (Tm n))(pa:Option Addr)(pc:Nat)(a:Option Addr)(c B:Nat)(w:World)(L:p.length<=8)(g:fC B w n p pa)(v:∀y∈p,aD ⟨n,y⟩)(C:fC B w m b a)(f:B<=w.heap.size):am 193 #[.agg #[ae a 4 c,ab self],ae pa p.length pc] w (jW (m+n+1) (wY m n self (λy=>vl m b self n y) p) w):=by
 have D:=λW k (Q:k<=8) h (e:aj w h)=>Dy n p pa pc B W k h (g.below (e.mono f)) L Q;have j:=D pT 0 (by omega);have o:=D wm 2 (by omega);have r:=D CG 1 (by omega);have K:∀y∈b,aD ⟨m,y⟩:=λy i=>((hU O).2 y i).2.1;cases e1:ua n p pT 0
 ·rw[e1]at j;cases e2:ua n p wm 2
  ·rw[e2]at o;cases e3:ua n p CG 1
   ·rw[e3]at r;refine Nz (m+n) _ a c self pa p.length pc w j o r ?_;intro h e;have P:=Cz m b self n ih p p.length rfl pa pc a c B h L (g.below (e.mono f)) v (C.below (e.mono f)) (az f e.size);simpa [wY,e1,e2,e3]using P
   ·rw[e3]at r;have s:=Bq e3;rcases g with g|⟨G,po,rfl,R,g⟩
    ·rw[g]at s;simp at s
    ·obtain⟨y,i⟩:∃y,p[1]?=some y:=⟨p[1]'(by omega),aG _⟩;obtain⟨u,x⟩:=g 1 y i;have t:=v y (aH i);have z:wY m n self (λy=>vl m b self n y) p=if aK n y=true then some (aS (m+n+1) n y)else none:=by simp[wY,e1,e2,e3,i]
     rw[z];cases n with
     | zero=>exact u.elim
     | succ n=>
     rw[show p.length=2 by omega]at j o r ⊢;refine O8 (m+(n+1)) _ a c self G po n (by omega) y (aK (n+1) y) pc w j o r (by omega) (by simpa using u) t ?_ ?_ rfl
     ·intro h e;exact ie (n+1) y B h (x.below (e.mono f)) (az f e.size) t
     ·intro h e;exact iH (n+1) y B h (x.below (e.mono f)) (az f e.size)
  ·rw[e2]at o;have s:=Bq e2;rcases g with g|⟨G,po,rfl,R,g⟩
   ·rw[g]at s;simp at s
   ·obtain⟨d,E⟩:∃d,p[1]?=some d:=⟨p[1]'(by omega),aG _⟩;obtain⟨y,i⟩:∃y,p[2]?=some y:=⟨p[2]'(by omega),aG _⟩;obtain⟨S,T⟩:=g 1 d E;obtain⟨u,x⟩:=g 2 y i;have M:=v d (aH E);have t:=v y (aH i);have z:wY m n self (λy=>vl m b self n y) p=wU (vl m b self n d) (vl m b self n y):=by simp[wY,e1,e2,E,i,wU]
    rw[z];have U:=Kt λJ F=>wi m b self N K n d M J F;have V:=Kt λJ F=>wi m b self N K n y t J F;cases n with
    | zero=>exact u.elim
    | succ n=>
    rw[show p.length=3 by omega]at j o ⊢;refine O7 (m+(n+1)) _ a c self G po d.1.1 d.1.2.1 d.1.2.2 d.2.1.1 d.2.2.length d.2.1.2 y.1.1 y.1.2.1 y.1.2.2 y.2.1.1 y.2.2.length y.2.1.2 pc w j o (by omega) (by simpa [dB]using S) (by simpa [dB]using u) ?_;intro h e;refine Ll (m+(n+1)) _ _ U V a c self d.1.1 d.1.2.1 d.1.2.2 d.2.1.1 d.2.2.length d.2.1.2 y.1.1 y.1.2.1 y.1.2.2 y.2.1.1 y.2.2.length y.2.1.2 h ?_ ?_
    ·intro H q;refine ti (m+n) _ a c self d.1.1 d.1.2.1 d.1.2.2 d.2.1.1 d.2.2.length d.2.1.2 H ?_;intro I A;have l:=(e.trans ((q.trans (A.mono q.size)).mono e.size));exact ih d a c B I (T.below (l.mono f)) M (C.below (l.mono f)) (az f l.size)
    ·intro H q;refine ti (m+n) _ a c self y.1.1 y.1.2.1 y.1.2.2 y.2.1.1 y.2.2.length y.2.1.2 H ?_;intro I A;have l:=(e.trans ((q.trans (A.mono q.size)).mono e.size));exact ih y a c B I (x.below (l.mono f)) t (C.below (l.mono f)) (az f l.size)
 ·rw[e1]at j;exact NB (m+n) _ a c self ⟨by omega,by omega⟩ pa p.length pc w j (by simp[Hid,wY,e1])
theorem IW(m:Nat)(b:List (Tm m))(self:Int)(z:ge m b=true)(J:1<=self/\self<=99)(n:Nat):N9 m b self n:=by
 induction n with
 | zero=>intro a j c q p v;exact v.elim
 | succ n ih=>
  intro a j c q p v u h g;obtain⟨y,H⟩:=hU z;have t:=u (bw n a) (by simp[ax,bw]);have I:a.2.2.length<=8:=mj (bw n a) t;by_cases s:a.1.1=6
  ·have f:=PH (m+n) (vl m b self (n+1) a) j a.1.2.1 a.1.2.2 a.2.1.1 a.2.2.length a.2.1.2 c self p (LF m b self n a s);rw[<-s]at f;exact f
  ·by_cases l:a.1.1=5
   ·have O:0<=a.1.2.1/\a.1.2.1<=3:=by
      have D:¬(5:Int)=1:=by decide
      have E:¬(5:Int)=2:=by decide
      have F:¬(5:Int)=3:=by decide
      have G:¬(5:Int)=4:=by decide
      simp only[cg,bw,l,oe,aA,cF,D,E,F,G,if_false]at t;exact⟨ft t.1.2.1,ft t.1.2.2⟩
    obtain⟨k,A⟩:∃k:Nat,a.1.2.1=(k:Int):=⟨a.1.2.1.toNat,by omega⟩;obtain⟨d,o⟩:∃d,b[k]?=some d:=⟨b[k]'(by omega),aG _⟩;have w:=(H d (aH o)).2.1;have C:=O6 m b self n a d k l A o;have M:=h;rcases h with h|⟨B,bo,rfl,N,h⟩
    ·rw[h]at y;simp at y
    ·obtain⟨K,L⟩:=h k d o;cases m with
     | zero=>exact(dh w).elim
     | succ m=>
     have f:=PJ (m+1+n) (vl (m+1) b self (n+1) a) B bo k a.1.2.1 a.1.2.2 a.2.1.1 a.2.2.length a.2.1.2 m (by omega) d c self p A (by omega) (by omega) K w
      (λi e=>ie (m+1) d q i (L.below (e.mono g)) (az g e.size) w)
      (λi=>js d.1.1 d.1.2.1 d.1.2.2 d.2.1.1 d.2.2.length d.2.1.2 i)
      (by
       show vl (m+1) b self (n+1) a=_;rw[C];by_cases x:d.1.1=6
       ·simp[bU,x]
       ·simp[bU,x])
     rw[<-l]at f;exact f
   ·by_cases r:a.1.1=4
    ·have f:=PI (m+n) (vl m b self (n+1) a) j a.1.2.1 a.1.2.2 a.2.1.1 a.2.2.length a.2.1.2 c self p (by
       intro i e;rw[LG m b self n a r]
       exact EF m b self z J n ih a.2.2 a.2.1.1 a.2.1.2 j c q i I (fC.below (e.mono g) v.2) (λd o=>aU n a d u o) (h.below (e.mono g)) (az g e.size))
     rw[<-r]at f;exact f
    ·exact O3 (m+n) (vl m b self (n+1) a) j a.1.1 a.1.2.1 a.1.2.2 a.2.1.1 a.2.2.length a.2.1.2 n (by omega) a c self p r l s u
       (λi e=>ie (n+1) a q i (v.below (e.mono g)) (az g e.size) u) (FN m b self n a r l s)
def wC(N:Nat):Tm (N+1):=bR 0 0 N
def AC(N:Nat)(E:Int)(o:Option (Tm (N+1)))(w:World)(e:Ending)(w':World):Prop:=
 ∃a:Tm (N+1),e=.returned (.tuple #[df (N+1) a,ab (FD E (nQ E o))])/\Hid (aj w w'/\In w'.heap.size w' (N+1) a/\cd (λb=>w.heap.size<=b) (N+1) a/\ay (N+1) a (N+1) ((nQ E o).getD (wC N))=true)
theorem oY{N:Nat}{E:Int}{o:Option (Tm (N+1))}{w w':World}{a:Int}(c:aj w w')(b:nQ E o=none)(d:a=FD E (nQ E o)):AC N E o w (.returned (.tuple #[.agg #[ab 0,ab 0,af .empty,ae none 0 0],ab a])) w':=by
 refine⟨wC N,by rw[d];rfl,c,(lg N 0 0 jr jr _ _ (λ_=>True)).1,(lg N 0 0 jr jr 0 w _).2,?_⟩;rw[b];exact xC N 0 0
theorem Nc{N:Nat}{E:Int}{o:Option (Tm (N+1))}{a:Tm (N+1)}{w w1 w2 j:World}{y:Tm (N+1)}{q:Nat}(e:E=0)(n:o=some a)(l:bv (N+1) a=0)(f:aj w w1)(p:w.heap.size<=q)(t:q<w1.heap.size)(h:aj w1 w2)(r:In w2.heap.size w2 (N+1) y)(i:cd (λq=>w1.heap.size<=q) (N+1) y)(s:ay (N+1) y (N+1) a=true)(c:aj w2 j)(v0 v1 v2 v3:Value):AC N E o w (.returned (.tuple #[.agg #[ab y.1.1,ab y.1.2.1,af y.1.2.2,ae y.2.1.1 y.2.2.length y.2.1.2],ab 0])) (cW j q 0 v0 v1 v2 v3):=by
 have g:=f.size;have k:=(f.trans (h.mono g)).trans (c.mono (az g h.size));have d:nQ E o=some a:=by simp[nQ,e,n,l]
 refine⟨y,by rw[d];simp[FD,e,df],cX k p _ _ _ _,?_,i.mono λb m=>by omega,by rw[d];exact s⟩;rw[bq];exact In.off (P:=λb=>w1.heap.size<=b) (λb m=>aW (by omega) _ _ _ _) i ((r.below c).mono c.size)
theorem Cd{c:Int}{bd:Bool}{self:Int}(a:FE c bd self=0):c=0/\bd=true/\1<=self/\self<=99:=by
 unfold FE at a;split at a
 ·split at a
  ·split at a
   ·rename_i b d e;exact⟨b,d,e⟩
   ·cases a
  ·cases a
 ·rename_i b;exact absurd a b
theorem IV{m n:Nat}{b:List (Tm m)}{self:Int}{x:Tm (n+1)}{a:Tm (m+n+1)}(c:bv (n+1) x=0)(d:ge m b=true)(h:vl m b self (n+1) x=some a):(ax (m+n+1) a).length<=2097152:=by
 have f:=l7 c;have e:=CE m b self 201 (by omega) (λi g=>l7 ((hU d).2 i g).1) (n+1) x a h;have:201*(ax (n+1) x).length<=201*201:=Nat.mul_le_mul_left 201 f;exact az e (by omega)
theorem um(w:World)(a b c d:Value)(t1 t2:TypeId):aj w ((w.alloc (.cells #[a,b,c,d] t1)).alloc (.cells #[ab 0,ab 0,af .empty,ae none 0 0] t2))/\nM (w.heap.size+1) ((w.alloc (.cells #[a,b,c,d] t1)).alloc (.cells #[ab 0,ab 0,af .empty,ae none 0 0] t2)):=by
 refine⟨((ap _ _).alloc (ak _) _).alloc (by simp) _,⟨?_,?_,?_,?_⟩,⟨?_,?_,?_,?_⟩,?_⟩<;>simp[go_sem]
theorem ED{w w':World}{b c d e y0 y1 y2 f:Value}{t1 t2:TypeId}(g:Below ((w.alloc (.cells #[b,c,d,e] t1)).alloc (.cells #[y0,y1,y2,f] t2)).heap.size ((w.alloc (.cells #[b,c,d,e] t1)).alloc (.cells #[y0,y1,y2,f] t2)) w'):w'.cell? ⟨w.heap.size,0,none⟩=some b/\w'.cell? ⟨w.heap.size,1,none⟩=some c/\w'.cell? ⟨w.heap.size,2,none⟩=some d/\w'.cell? ⟨w.heap.size,3,none⟩=some e:=by
 have a:=λo=>g.cell (p:=⟨w.heap.size,o,none⟩) (by simp;omega);exact⟨(a 0).trans (by simp[go_sem]),(a 1).trans (by simp[go_sem]),(a 2).trans (by simp[go_sem]),(a 3).trans (by simp[go_sem])⟩
theorem Ce(N:Nat)(o:Option (Tm (N+1)))(a:Option Addr)(U c:Nat)(self:Int)(Z aa:Int)(ad:ByteArray)(xa:Option Addr)(ag xc:Nat)(l:Int)(bd:Bool)(w:World)(ai:Hid (∀w1,aj w w1->am 23 #[.agg #[ab Z,ab aa,af ad,ae xa ag xc]] w1 λe w'=>e=.returned (ab l)/\aj w1 w'))(ah:Hid (∀w1,aj w w1->am 177 #[ae a U c] w1 λe w'=>e=.returned (.bool bd)/\aj w1 w'))(r:Hid (FE l bd self=0->∀w1,aj w w1->am 183 #[.agg #[ae a U c,ab self],.agg #[ab Z,ab aa,af ad,ae xa ag xc]] w1 (jW (N+1) o w1)))(p:Hid (FE l bd self=0->∀(y f:Tm (N+1))(w1:World),o=some f->ay (N+1) y (N+1) f=true->In w1.heap.size w1 (N+1) y->am 23 #[.agg #[ab y.1.1,ab y.1.2.1,af y.1.2.2,ae y.2.1.1 y.2.2.length y.2.1.2]] w1 λe w'=>e=.returned (ab (bv (N+1) f))/\aj w1 w')):am 153 #[.agg #[ab Z,ab aa,af ad,ae xa ag xc],ae a U c,ab self] w (AC N (FE l bd self) o w):=by
 obtain⟨E,Q⟩:∃E,E=FE l bd self:=⟨_,rfl⟩;rw[<-Q]at r p ⊢;have m:=aq Q;clear Q;go_enter func153,ntmps153;go_wp2_with fail;refine(ai _ (um w _ _ _ _ _ _).1).mono ?_;rintro e w1 ⟨rfl,I⟩;have ar:=aq (ED I);have A:Hid (aj w w1):=(um w _ _ _ _ _ _).1.trans (I.mono (um w _ _ _ _ _ _).1.size);have F:=aq ((um w _ _ _ _ _ _).2.below I);clear I ai;by_cases d:l=0
 case neg=>
  have aI:(l !=0)=true:=by simpa using d
  have b:Hid (E=l/\l≠0):=⟨by rw[m.out];simp[FE,d],d⟩;obtain⟨⟨g,h,i,j⟩,⟨f0,f1,f2,f3⟩,x⟩:=F.out;clear r m d p;go_wp2_with fail;exact av (v:=.tuple #[.agg #[ab 0,ab 0,af .empty,ae none 0 0],ab l]) (by simp[results,results153,go_sem,g,h,i,j];rfl) rfl (oY (cX A (by omega) _ _ _ _) (by simp[nQ,b.out.1,b.out.2]) (by simp[FD,b.out.1,b.out.2]))
 have aI:(l !=0)=false:=by simp[d]
 go_wp2_with fail;refine(ah _ A).mono ?_;rintro e aA ⟨rfl,J⟩;have au:=aq (nT (Nat.lt_of_succ_lt F.2.2) J ar);have n:Hid (aj w aA):=A.trans (J.mono A.size);have q:=aq (F.below J);clear J ah A ar F;cases bd
 ·have b:Hid (E=5):=by rw[Hid,m.out];simp[FE,d]
  obtain⟨⟨g,h,i,j⟩,⟨f0,f1,f2,f3⟩,x⟩:=q.out;clear r m d p;go_wp2_with fail;exact av (v:=.tuple #[.agg #[ab 0,ab 0,af .empty,ae none 0 0],ab 5]) (by simp[results,results153,go_sem,g,h,i,j];rfl) rfl (oY (cX n (by omega) _ _ _ _) (by simp[nQ,b.out]) (by simp[FD,b.out]))
 ·by_cases ax:self<1
  ·have aE:decide (self<1)=true:=by simpa using ax
   have b:Hid (E=1):=by rw[Hid,m.out];simp only[FE,d,cF];rw[if_neg (by omega)]
   obtain⟨⟨g,h,i,j⟩,⟨f0,f1,f2,f3⟩,x⟩:=q.out;clear r m d p;go_wp2_with fail;exact av (v:=.tuple #[.agg #[ab 0,ab 0,af .empty,ae none 0 0],ab 1]) (by simp[results,results153,go_sem,g,h,i,j];rfl) rfl (oY (cX n (by omega) _ _ _ _) (by simp[nQ,b.out]) (by simp[FD,b.out]))
  ·have aE:decide (self<1)=false:=by simpa using ax
   by_cases az:99<self
   ·have aF:decide (99<self)=true:=by simpa using az
    have b:Hid (E=1):=by rw[Hid,m.out];simp only[FE,d,cF];rw[if_neg (by omega)]
    obtain⟨⟨g,h,i,j⟩,⟨f0,f1,f2,f3⟩,x⟩:=q.out;clear r m d p;go_wp2_with fail;exact av (v:=.tuple #[.agg #[ab 0,ab 0,af .empty,ae none 0 0],ab 1]) (by simp[results,results153,go_sem,g,h,i,j];rfl) rfl (oY (cX n (by omega) _ _ _ _) (by simp[nQ,b.out]) (by simp[FD,b.out]))
   ·have aF:decide (99<self)=false:=by simpa using az
    have B:Hid (E=0):=by rw[Hid,m.out];simp only[FE,d,cF];rw[if_pos (by omega)]
    obtain⟨aM,aN,aO,aP⟩:=au.out;have aR:w.heap.size<aA.heap.size:=Nat.lt_of_succ_lt q.2.2;clear m d;go_wp2_with fail;refine(r B _ n).mono ?_;rintro e z ⟨y,aL,rfl,k⟩;have K:Hid (aj w z):=n.trans (k.1.mono n.size);have G:=aq (q.below k.1);have aw:df (N+1) y=.agg #[ab y.1.1,ab y.1.2.1,af y.1.2.2,ae y.2.1.1 y.2.2.length y.2.1.2]:=rfl;rw[aw];clear r aw aM aN aO aP au;cases aL
    ·have al:Hid (o=none):=by
       have:=k.2.2.2.1;cases o with
       | none=>rfl
       | some f=>cases this
     obtain⟨⟨g,h,i,j⟩,⟨f0,f1,f2,f3⟩,x⟩:=G.out;clear k p;go_wp2_with fail;exact av (v:=.tuple #[.agg #[ab 0,ab 0,af .empty,ae none 0 0],ab 7]) (by simp[results,results153,go_sem,g,h,i,j,x];rfl) rfl (oY ((cX K (by omega) _ _ _ _).alloc (by rw[bq];omega) _) (by simp[nQ,al.out]) (by simp[FD,nQ,al.out,B.out]))
    ·obtain⟨f,T⟩:∃f,o=some f:=by
       have:=k.2.2.2.1;cases o with
       | none=>cases this
       | some f=>exact⟨f,rfl⟩
     have H:=aq T;have ao:=aq (k.2.2.2.2 f T)
     have O:Hid (∀w1,aj z w1->am 23 #[.agg #[ab y.1.1,ab y.1.2.1,af y.1.2.2,ae y.2.1.1 y.2.2.length y.2.1.2]] w1 λe w'=>e=.returned (ab (bv (N+1) f))/\aj w1 w'):=
      λw1 t=>p B y f w1 H ao ((k.2.1.below t).mono t.size)
     obtain⟨s,S⟩:∃s,s=bv (N+1) f:=⟨_,rfl⟩;rw[<-S]at O;have M:=aq S;have P:=λ(D:World)(aH:aj z D)(aG:s=0) V W X Y=>aq (Nc (E:=E) B H (M.symm.trans aG) n (gT _ 1) q.2.2 k.1 k.2.1 k.2.2.1 ao aH V W X Y);clear T S p k q n;go_wp2_with fail;refine(O _ ((ap _ _).alloc (ak _) _)).mono ?_;rintro e D ⟨rfl,R⟩;obtain⟨⟨t0,t1,t2,t3⟩,_⟩:=ET R;have L:Hid (aj z D):=((ap _ _).alloc (ak _) _).trans (R.mono (by simp));have aB:=aq (G.below L);have aD:Hid (aj w D):=K.trans (L.mono K.size);obtain⟨⟨g,h,i,j⟩,⟨f0,f1,f2,f3⟩,x⟩:=aB;have aK:¬(w.heap.size+1=z.heap.size):=by have:=G.2.2;omega
     have aQ:¬(z.heap.size=w.heap.size+1):=λe=>aK e.symm;clear R O G;by_cases u:s=0
     ·have aJ:(s !=0)=false:=by simp[u]
      have aC:=λV W X Y=>P D L u V W X Y;clear P u;go_wp2_with fail;exact av (v:=.tuple #[.agg #[ab y.1.1,ab y.1.2.1,af y.1.2.2,ae y.2.1.1 y.2.2.length y.2.1.2],ab 0]) (by simp[results,results153,go_sem,g,h,i,j]) rfl (aC _ _ _ _)
     ·have aJ:(s !=0)=true:=by simpa using u
      have an:=aq u;clear P u;go_wp2_with fail;exact av (v:=.tuple #[.agg #[ab 0,ab 0,af .empty,ae none 0 0],ab 7]) (by simp[results,results153,go_sem,g,h,i,j];rfl) rfl (oY (cX aD (by omega) _ _ _ _) (by have t:=M.out;have C:=an.out;rw[t]at C;simp[nQ,H.out,C]) (by have t:=M.out;have C:=an.out;rw[t]at C;simp[FD,nQ,H.out,B.out,C]))
theorem Ea(n m:Nat)(x:Tm (n+1))(b:List (Tm m))(a:Option Addr)(c B:Nat)(self:Int)(w:World)(p:In B w (n+1) x)(k:fC B w m b a)(f:B<=w.heap.size)(r:(ax (n+1) x).length<=2097152)(t:b.length<=9223372036854775807)(s:∀y∈b,(ax m y).length<=2097152):am 153 #[df (n+1) x,ae a b.length c,ab self] w (AC (m+n) (FE (bv (n+1) x) (ge m b) self) (vl m b self (n+1) x) w):=by
 refine Ce (m+n) _ a b.length c self x.1.1 x.1.2.1 x.1.2.2 x.2.1.1 x.2.2.length x.2.1.2 (bv (n+1) x) (ge m b) w ?_ ?_ ?_ ?_
 ·intro e d;exact dC (n+1) x B e (p.below (d.mono f)) (az f d.size) r
 ·intro e d;exact AI m b a c B e (k.below (d.mono f)) t s (az f d.size)
 ·intro i e d;obtain⟨h,g,j⟩:=Cd i;have q:=(hU g).1;rw[q];exact IW m b self g j (n+1) x a c B e (p.below (d.mono f)) (aL.2 (bC.1 h).1) (k.below (d.mono f)) (az f d.size)
 ·intro i y A e z o u;obtain⟨h,g,j⟩:=Cd i;have v:=IV h g z;have l:=dC (m+n+1) y e.heap.size e u (ak _) (by rw[kC _ _ _ _ o];exact v);rw[bJ o]at l;exact l
theorem Cg{n m b a:Nat}{x:Tm n}{y:Tm m}{x':Tm b}{c:Tm a}(e:ay n x b x'=true)(k:ay m y a c=true):ay n x m y=ay b x' a c:=by
 cases d:ay b x' a c with
 | true=>exact bH _ _ _ _ _ _ e (bH _ _ _ _ _ _ d (dJ _ _ _ _ k))
 | false=>
  cases e2:ay n x m y with
  | false=>rfl
  | true=>
   have f:=bH _ _ _ _ _ _ (dJ _ _ _ _ e) (bH _ _ _ _ _ _ e2 k);rw[d]at f;cases f
def oA:Option (List An)->Option (List An)->Prop
 | none,none=>True
 | some b,some c=>aC ee b c=true
 | _,_=>False
theorem vk{x y:An}(a:ee x y=true):bU x=bU y:=by
 obtain⟨n,x⟩:=x;obtain⟨b,y⟩:=y;cases n with
 | zero=>simp[ee,ay]at a
 | succ n=>
  cases b with
  | zero=>simp[ee,ay]at a
  | succ b=>
   simp only[ee,ay,aA,cm]at a;exact a.1.1.1
theorem ux{c d:Type}{f:c->d->Bool}{a:c}{b:d}(e:f a b=true):(p:List c)->(q:List d)->(i:Nat)->aC f p q=true->aC f (p.set i a) (q.set i b)=true
 | [],[],_,_=>by simp[aC]
 | [],_::_,_,h=>by simp[aC]at h
 | _::_,[],_,h=>by simp[aC]at h
 | x::p,y::q,0,h=>by
  simp only[aC,aA]at h;simp[aC,e,h.2]
 | x::p,y::q,i+1,h=>by
  simp only[aC,aA]at h;simp[aC,h.1,ux e p q i h.2]
theorem Dh{b c:List An}{i:Nat}{t h:An}(f:aC ee b c=true)(j:ee t h=true):oA (uW b i t) (uW c i h):=by
 have o:=cE _ _ _ f;unfold uW;cases e:b[i]? with
 | none=>
  have a:c[i]?=none:=by
   rw[List.getElem?_eq_none_iff]at e ⊢;omega
  rw[a];trivial
 | some g=>
  obtain⟨n,m⟩:=aO.1 e;have a:c[i]?=some c[i]:=aG (by omega);rw[a];have k:ee g c[i]=true:=jx _ _ _ f i _ _ e a;simp only;rw[<-vk k];by_cases d:bU g=6
  ·rw[if_pos d,if_pos d];exact ux j _ _ _ f
  ·rw[if_neg d,if_neg d];have l:ee g t=ee c[i] h:=Cg k j;rw[<-l];cases ee g t
   ·simp[oA]
   ·simpa [oA]using f
theorem uV{n r o s:Type}(f:n->r->List An->Option (List An))(g:o->s->List An->Option (List An))(P:n->o->Bool)(Q:r->s->Bool):(p:List n)->(q:List r)->(a:List o)->(h:List s)->(∀x∈p,∀y∈q,∀x' k b c,P x x'=true->Q y k=true->aC ee b c=true->oA (f x y b) (g x' k c))->aC P p a=true->aC Q q h=true->∀b c,aC ee b c=true->oA (iD f p q b) (iD g a h c)
 | [],_,a,_,_,i,_,b,c,l=>by
  cases a with
  | nil=>simpa [iD,oA]using l
  | cons _ _=>simp[aC]at i
 | x::p,[],a,h,_,i,j,b,c,l=>by
  cases h with
  | nil=>cases a<;>simpa [iD,oA]using l
  | cons _ _=>simp[aC]at j
 | x::p,y::q,a,h,hf,i,j,b,c,l=>by
  cases a with
  | nil=>simp[aC]at i
  | cons x' a=>
   cases h with
   | nil=>simp[aC]at j
   | cons k h=>
    simp only[aC,aA]at i j;have e:=hf x (by simp) y (by simp) x' k b c i.1 j.1 l;simp only[iD];cases e1:f x y b with
    | none=>
     rw[e1]at e;cases m:g x' k c with
     | none=>simp[oA]
     | some _=>rw[m]at e;exact e.elim
    | some d=>
     rw[e1]at e;cases m:g x' k c with
     | none=>rw[m]at e;exact e.elim
     | some t=>
      rw[m]at e;simp only[dA];exact uV f g P Q p q a h (λx u y v=>hf x (by simp[u]) y (by simp[v])) i.2 j.2 d t e
theorem mh:(n:Nat)->(p:Tm n)->(m:Nat)->(t:Tm m)->(d:Nat)->(j:Tm d)->(a:Nat)->(k:Tm a)->(b c:List An)->ay n p d j=true->ay m t a k=true->aC ee b c=true->oA (gZ n p m t b) (gZ d j a k c)
 | 0,_,_,_,_,_,_,_,_,_,h,_,_=>by simp[ay]at h
 | _+1,_,_,_,0,_,_,_,_,_,h,_,_=>by simp[ay]at h
 | _+1,_,0,_,_+1,_,_,_,_,_,_,h,_=>by simp[ay]at h
 | _+1,_,_+1,_,_+1,_,0,_,_,_,_,h,_=>by simp[ay]at h
 | n+1,p,m+1,t,d+1,j,a+1,k,b,c,hp,ht,hb=>by
  have u:=hp;have l:=ht;simp only[ay,aA,cm]at hp ht;obtain⟨⟨⟨v,w⟩,A⟩,o⟩:=hp;obtain⟨⟨⟨t1,t2⟩,t3⟩,t4⟩:=ht;unfold gZ;rw[<-v,<-w,<-t1,<-cE _ _ _ o,<-cE _ _ _ t4];by_cases g:p.1.1=6
  ·rw[if_pos g,if_pos g];exact hb
  ·rw[if_neg g,if_neg g];by_cases f:p.1.1=5
   ·rw[if_pos f,if_pos f];exact Dh hb l
   ·rw[if_neg f,if_neg f];by_cases e:p.1.1=4
    ·rw[if_pos e,if_pos e];by_cases i:t.1.1=4/\p.2.2.length=t.2.2.length
     ·rw[if_pos i,if_pos i];exact uV _ _ (λx y=>ay n x d y) (λx y=>ay m x a y) p.2.2 t.2.2 j.2.2 k.2.2 (λx _ y _ x' z b c q r s=>mh n x m y d x' a z b c q r s) o t4 b c hb
     ·rw[if_neg i,if_neg i];trivial
    ·rw[if_neg e,if_neg e,<-Cg u l];cases ay (n+1) p (m+1) t
     ·simp[oA]
     ·simpa [oA]using hb
theorem Bl{w w':World}{g:Nat}(c:w.grownBy w' (some g)):∀b o,b<w.heap.size->b≠g->w'.cell? ⟨b,o,none⟩=w.cell? ⟨b,o,none⟩:=
 λb o d e=>World.cell?_of_block (a:=⟨b,o,none⟩) (c.block b d (by simpa using e))
theorem ri{w w':World}{row:Option Nat}(a:w.drew.grownBy w' row):w.grownBy w' row:=⟨a.os,a.tape,a.output,a.size,a.block⟩
theorem Gv(p q:Nat)(a d:Option Addr)(pc h:Nat)(g c:Nat)(base:Nat)(w:World)(_hpc:p<=9223372036854775807)(_hqc:q<=9223372036854775807)(f:((p:Int)==(q:Int))=false):am 190 #[ae (some ⟨g,0,none⟩) 4 c,ae a p pc,ae d q h] w (eM base g c none w):=by
 have i:((p:Int) !=(q:Int))=true:=by simpa using f
 go_enter func190,ntmps190;go_wp2_with fail
 go_ret
 exact⟨rfl,gB _ _,λb e=>by cases e⟩
theorem uU(a e:Option Addr)(pc i:Nat)(g c:Nat)(base:Nat)(b:List An)(w:World)(H:nb base g c b w):am 190 #[ae (some ⟨g,0,none⟩) 4 c,ae a 0 pc,ae e 0 i] w (eM base g c (some b) w):=by
 have d:=aq H;clear H;go_enter func190,ntmps190;go_wp2_with fail
 go_loop [16] (λh=>h=ab 0) (λ_=>0)
 case atStart=>rfl
 case round=>
  obtain rfl:=hrel;go_wp2_with fail
  go_ret
  exact⟨rfl,gB _ _,λj f=>by obtain rfl:=aw f;exact d⟩
theorem Gu(n m:Nat)(ih:N7 n)(p:List (Tm n))(q:List (Tm m))(len:Nat)(ad:Hid (p.length=len))(aB:Hid (q.length=len))(K po d j pc aC:Nat)(b:List An)(base g c B:Nat)(w:World)(aK:len<=9223372036854775807)(ay:K<B)(aA:d<B)(aa:∀(i:Nat)(y:Tm n),p[i]?=some y->dB w K (po+i*4) n y/\In B w n y)(ag:∀(i:Nat)(y:Tm m),q[i]?=some y->dB w d (j+i*4) m y/\In B w m y)(ah:∀y∈p,aD ⟨n,y⟩)(ai:∀y∈q,aD ⟨m,y⟩)(V:Hid (CQ B w b))(U:B<=base)(H:Hid (nb base g c b w)):am 190 #[ae (some ⟨g,0,none⟩) 4 c,ae (some ⟨K,po,none⟩) len pc,ae (some ⟨d,j,none⟩) len aC] w (eM base g c (iD (λx y b=>gZ n x m y b) p q b) w):=by
 have W:B<=g:=az U H.out.lt.1;have X:g<w.heap.size:=H.out.lt.2;go_enter func190,ntmps190;go_wp2_with fail;go_loopw [16] (λi wr=>∃k:Nat,k<=len/\i=ab k/\Hid (w.grownBy wr (some g)/\∃a,nb base g c a wr/\CQ B wr a/\iD (λx y b=>gZ n x m y b) (p.drop k) (q.drop k) a=iD (λx y b=>gZ n x m y b) p q b)) (λi _=>len-(intOf i).toNat)
 case atStart=>exact⟨0,by omega,rfl,gB _ _,b,H.out,V.out,rfl⟩
 case round=>
  obtain⟨k,aF,rfl,v⟩:=hrel;by_cases Z:k<len
  ·obtain⟨x,E⟩:∃x,p[k]?=some x:=⟨p[k]'(by rw[ad.out];exact Z),aG _⟩;obtain⟨y,I⟩:∃y,q[k]?=some y:=⟨q[k]'(by rw[aB.out];exact Z),aG _⟩;obtain⟨l,a,L,u,t⟩:Hid (w.grownBy wr (some g))/\∃a,Hid (nb base g c a wr)/\Hid (CQ B wr a)/\Hid (iD (λx y b=>gZ n x m y b) (p.drop k) (q.drop k) a=iD (λx y b=>gZ n x m y b) p q b):=v.out;clear v;obtain⟨F,G⟩:=aa k x E;obtain⟨J,r⟩:=ag k y I;have z:=aq (Gx (λx y b=>gZ n x m y b) p q k x y E I a);have T:=aq (ah x (aH E));have N:=aq (ai y (aH I));have o:=od l.out W X;replace F:=F.below o ay;replace J:=J.below o aA;replace G:=G.below o;replace r:=r.below o;have aE:g<wr.heap.size:=aR X l.out.size;have D:B<=wr.heap.size:=by omega
   clear aa ag E I ah ai V H o;cases n with
   | zero=>exact F.elim
   | succ n=>
   cases m with
   | zero=>exact J.elim
   | succ m=>
   obtain⟨aQ,aS,aT,aU⟩:=F;obtain⟨y0,y1,y2,aV⟩:=J
   have Q:Hid (∀(h:World),aj wr h->am 179 #[ae (some ⟨g,0,none⟩) 4 c,.agg #[ab x.1.1,ab x.1.2.1,af x.1.2.2,ae x.2.1.1 x.2.2.length x.2.1.2],.agg #[ab y.1.1,ab y.1.2.1,af y.1.2.2,ae y.2.1.1 y.2.2.length y.2.1.2]] h (eM base g c (gZ (n+1) x (m+1) y a) h)):=
    λh C=>ih x (m+1) y a base g c B h (G.below (C.mono D)) (r.below (C.mono D)) T.out N.out (u.out.below (C.mono D)) U (L.out.below C)
   have M:Hid (∀s e,gZ (n+1) x (m+1) y a=s->s=some e->CQ B wr e):=λs e au av=>u.out.fit r N.out (au.trans av);clear ih G r T N u;replace z:Hid (iD (λx y b=>gZ (n+1) x (m+1) y b) (p.drop k) (q.drop k) a=(gZ (n+1) x (m+1) y a).bind (iD (λx y b=>gZ (n+1) x (m+1) y b) (p.drop (k+1)) (q.drop (k+1)))):=z;generalize gZ (n+1) x (m+1) y a=s at*;generalize x.2.2.length=al at*;generalize y.2.2.length=yl at*;have aI:(0:Int)<=(k:Int):=by omega
   have aJ:(k:Int)<(len:Int):=by omega
   have aL:K<wr.heap.size:=by omega
   have aN:d<wr.heap.size:=by omega
   have aO:d<wr.heap.size+1:=by omega
   have aM:d≠g:=by omega
   have aP:wr.heap.size≠g:=by omega
   have an:=aq (Q.out (wr.alloc (.cells #[ab x.1.1,ab x.1.2.1,af x.1.2.2,ae x.2.1.1 al x.2.1.2] 28)).drew (((ap _ _).alloc (ak _) _).drew));clear Q;go_wp2_with fail
   go_region_held3 (λf=>f.cell? ⟨wr.heap.size,0,none⟩=some (ab x.1.1)/\f.cell? ⟨wr.heap.size,1,none⟩=some (ab x.1.2.1)/\f.cell? ⟨wr.heap.size,2,none⟩=some (af x.1.2.2)/\f.cell? ⟨wr.heap.size,3,none⟩=some (ae x.2.1.1 al x.2.1.2)
       /\f.cell? ⟨d,j+k*4,none⟩=some (ab y.1.1)/\f.cell? ⟨d,j+k*4+1,none⟩=some (ab y.1.2.1)/\f.cell? ⟨d,j+k*4+2,none⟩=some (af y.1.2.2)/\f.cell? ⟨d,j+k*4+3,none⟩=some (ae y.2.1.1 yl y.2.1.2))
    (go_keep) ((go_at_call 179;refine an.out.mono ?_;rintro A h ⟨rfl,O,Y⟩;have ax:=Bl (ri O);have R:=aq (ri O);have ao:=aq Y;clear O Y))
   have S:Hid (w.grownBy h (some g)):=lD l.out (lD (dd wr _ _) R.out);clear ax;cases s with
   | some e=>
    have ar:Hid (CQ B h e):=(M.out _ e rfl rfl).below ((((ap _ _).alloc (ak _) _).mono D).trans (od R.out W (by simp;omega)));clear M;simp only[mW];go_wp2_with fail;go_roundw
    case rel=>exact⟨k+1,by omega,by go_num,S.out,e,ao.out e rfl,ar.out,by rw[<-t.out,z.out];rfl⟩
    case measure=>simp[intOf];omega
   | none=>
    clear M;simp only[mV];go_wp2_with fail
    go_ret
    have P:iD (λx y b=>gZ (n+1) x (m+1) y b) p q b=none:=by rw[<-t.out,z.out];rfl
    rw[P];exact⟨rfl,S.out,λa A=>by cases A⟩
  ·obtain⟨l,a,L,u,t⟩:Hid (w.grownBy wr (some g))/\∃a,Hid (nb base g c a wr)/\Hid (CQ B wr a)/\Hid (iD (λx y b=>gZ n x m y b) (p.drop k) (q.drop k) a=iD (λx y b=>gZ n x m y b) p q b):=v.out;clear v;go_wp2_with fail
   go_ret
   have P:iD (λx y b=>gZ n x m y b) p q b=some a:=by rw[<-t.out,gt (by rw[ad.out];omega)];rfl
   rw[P];exact⟨rfl,l.out,λe A=>by obtain rfl:=aw A;exact L.out⟩
end Go.Proofs.YtmmahddlcldmiaaGreatDoor
