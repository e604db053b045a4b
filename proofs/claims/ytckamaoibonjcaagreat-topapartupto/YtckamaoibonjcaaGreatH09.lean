/- What is proved here: plain facts and contracts that the claimed theorem stands on. No condition but those that each names. -/
import Derived.Test.YtckamaoibonjcaaGreatH08
namespace Go.Proofs.YtckamaoibonjcaaGreat
open Go.RowKit
set_option maxRecDepth 100000
set_option maxHeartbeats 1000000
def pf:ByteArray:=⟨#[115,101,108,102]⟩
def vm:ByteArray:=⟨#[97,100,100]⟩
def BC:ByteArray:=⟨#[112,117,116]⟩
def oS(N:Nat)(x:Tm N):Int:=(fX N x).1.2.1
def tm(n:Nat)(p:List (Tm n))(s:ByteArray)(k:Nat):Bool:=
 decide (p.length=1+k) && match p[0]? with
  | some a=>bN ⟨n,a⟩==2 && (fX n a).1.2.2.toList==s.toList
  | none=>false
def cC{c d:Type}(f:c->Option d):List c->Option (List d)
 | []=>some []
 | a::p=>(f a).bind λb=>(cC f p).map λl=>b::l
def bJ(k a:Int)(N:Nat):Tm (N+1):=((k,a,.empty),(none,0),[])
def yJ(N:Nat)(a c:Tm N):Bool:=bN ⟨N,a⟩==1 && bN ⟨N,c⟩==1 && pY (oS N a+oS N c) (-1099511627776) 1099511627776
def s8(N:Nat)(a c:Tm N):Option (Tm (N+1)):=if yJ N a c then some (bJ 1 (oS N a+oS N c) N)else none
def cU(N:Nat)(l:List (Tm N)):Tm (N+1):=((4,0,.empty),(none,0),l)
def vl(m:Nat)(b:List (Tm m))(self:Int):(n:Nat)->Tm n->Option (Tm (m+n))
 | 0,_=>none
 | n+1,x=>
  if x.1.1=5 then (b[x.1.2.1.toNat]?).bind λy=>if bN ⟨m,y⟩=6 then none else some (aN (m+n+1) m y)
  else if x.1.1=6 then none
  else if x.1.1=4 then
   if tm n x.2.2 pf 0 then some (bJ 3 self (m+n))
   else if tm n x.2.2 vm 2 then
    (x.2.2[1]?).bind λa=>(x.2.2[2]?).bind λc=>(vl m b self n a).bind λa=>(vl m b self n c).bind λc=>s8 (m+n) a c
   else if tm n x.2.2 BC 1 then
    (x.2.2[1]?).bind λa=>if aH n a then some (aN (m+n+1) n a)else none
   else (cC (λy=>vl m b self n y) x.2.2).map (cU (m+n))
  else some (aN (m+n+1) (n+1) x)
theorem qi{e g:Type}(f:e->Option g):(p:List e)->(l:List g)->cC f p=some l->l.length=p.length/\∀(i:Nat)(a:e)(y:g),p[i]?=some a->l[i]?=some y->f a=some y
 | [],l,b=>by simp[cC]at b;subst b;exact⟨rfl,λi a y c=>by simp at c⟩
 | a::p,l,b=>by
  simp only[cC]at b;obtain⟨y,n,b⟩:=br.1 b;obtain⟨r,m,rfl⟩:=cd.1 b;obtain⟨j,k⟩:=qi f p r m;refine⟨by simp[j],λi h o c d=>?_⟩;cases i with
  | zero=>
   simp at c d;subst c d;exact n
  | succ i=>exact k i h o (by simpa using c) (by simpa using d)
theorem lA{c d:Type}(f:c->Option d):(p:List c)->(i:Nat)->(a:c)->p[i]?=some a->f a=none->cC f p=none
 | [],i,a,h,_=>by simp at h
 | b::p,0,a,h,k=>by
  simp at h;subst h;simp[cC,k]
 | b::p,i+1,a,h,k=>by
  simp only[cC];rw[lA f p i a (by simpa using h) k];simp
theorem vO{b c:Type}(f:b->Option c)(g:b->c):(p:List b)->(∀a∈p,f a=some (g a))->cC f p=some (p.map g)
 | [],_=>rfl
 | a::p,h=>by simp[cC,h a (by simp),vO f g p λx d=>h x (bH _ d)]
theorem xT{b c d:Type}(f:b->List d)(g:c->List d)(K:Nat):(p:List b)->(l:List c)->l.length=p.length->(∀(i:Nat)(a:b)(y:c),p[i]?=some a->l[i]?=some y->(g y).length<=K*(f a).length)->(l.flatMap g).length<=K*(p.flatMap f).length
 | [],[],_,_=>by simp
 | [],_::_,h,_=>by simp at h
 | _::_,[],h,_=>by simp at h
 | a::p,y::l,h,k=>by
  have m:=k 0 a y rfl rfl;have n:=xT f g K p l (by simpa using h) λi a y e j=>k (i+1) a y (by simpa using e) (by simpa using j);simp only[bv,bf];rw[Nat.mul_add];omega
theorem oh:(N n:Nat)->n<=N->(x:Tm n)->(av N (aN N n x)).length<=(av n x).length
 | 0,0,_,_=>aj _
 | _+1,0,_,_=>by simp[aN,av]
 | 0,n+1,h,_=>by omega
 | N+1,n+1,h,x=>by
  have:=xT (λy=>av n y) (λy=>av N y) 1 x.2.2 (x.2.2.map λy=>aN N n y) (by simp) λi a y c b=>by
   simp[c]at b;subst b;rw[Nat.one_mul];exact oh N n (by omega) a
  simp only[av,aN,aZ];omega
theorem uv{a K:Nat}(b:1<=K):a<=K*a:=Nat.le_mul_of_pos_left a b
theorem Az{d e:Type}(f:d->List e)(p:List d)(a:d)(c:a∈p):(f a).length<=(p.flatMap f).length:=by
 induction p with
 | nil=>cases c
 | cons b p ih=>
  simp only[bv,bf];rcases cB.1 c with rfl|c
  ·omega
  ·have:=ih c;omega
theorem BA(m:Nat)(b:List (Tm m))(self:Int)(K:Nat)(f:1<=K)(q:∀y∈b,(av m y).length<=K):(n:Nat)->(x:Tm n)->(o:Tm (m+n))->vl m b self n x=some o->(av (m+n) o).length<=K*(av n x).length
 | 0,_,_,d=>by simp[vl]at d
 | n+1,x,o,d=>by
  have one:∀k r,(av (m+n+1) (bJ k r (m+n))).length<=K*(av (n+1) x).length:=λk r=>by
   have:1*1<=K*(av (n+1) x).length:=Nat.mul_le_mul f (by simp[av]);simpa [av,bJ]using this
  have up:∀(y:Tm n),y∈x.2.2->K*(av n y).length<=K*(av (n+1) x).length:=λy j=>by
   have:=Az (λy=>av n y) x.2.2 y j;exact Nat.mul_le_mul_left K (by simp only[av,aZ]at this ⊢;omega)
  simp only[vl]at d;split at d
  ·obtain⟨y,j,d⟩:=br.1 d;split at d
   ·cases d
   ·obtain rfl:=au d;have e:=oh (m+n+1) m (by omega) y;have g:=q y (aG j);have h:K*1<=K*(av (n+1) x).length:=Nat.mul_le_mul_left K (by simp[av]);show (av (m+n+1) _).length<=_;omega
  ·split at d
   ·cases d
   ·split at d
    ·split at d
     ·obtain rfl:=au d;exact one _ _
     ·split at d
      ·obtain⟨a,p,d⟩:=br.1 d;obtain⟨c,A,d⟩:=br.1 d;obtain⟨v,z,d⟩:=br.1 d;obtain⟨w,B,d⟩:=br.1 d;unfold s8 at d;split at d
       ·obtain rfl:=au d;exact one _ _
       ·cases d
      ·split at d
       ·obtain⟨a,p,d⟩:=br.1 d;split at d
        ·obtain rfl:=au d;have e:=oh (m+n+1) n (by omega) a;have g:=up a (aG p);have h:=uv (a:=(av n a).length) f;show (av (m+n+1) _).length<=_;omega
        ·cases d
       ·obtain⟨l,u,rfl⟩:=cd.1 d;obtain⟨e,g⟩:=qi _ _ _ u;have h:=xT (λy=>av n y) (λy=>av (m+n) y) K x.2.2 l e λi a y s t=>BA m b self K f q n a y (g i a y s t);show (av (m+n+1) (cU (m+n) l)).length<=_;simp only[av,cU,aZ];rw[Nat.mul_add];omega
    ·obtain rfl:=au d;have e:=oh (m+n+1) (n+1) (by omega) x;have h:=uv (a:=(av (n+1) x).length) f;show (av (m+n+1) _).length<=_;omega
theorem jS:(n:Nat)->(x:Tm n)->(m:Nat)->(y:Tm m)->aw n x m y=true->(av n x).length=(av m y).length
 | 0,_,_,_,h=>by simp[aw]at h
 | _+1,_,0,_,h=>by simp[aw]at h
 | n+1,x,m+1,y,h=>by
  obtain⟨f,e⟩:=bA h;have key:∀(p:List (Tm n))(q:List (Tm m)),ay (λa b=>aw n a m b) p q=true->(p.flatMap λy=>av n y).length=(q.flatMap λy=>av m y).length:=by
   intro p
   induction p with
   | nil=>intro q d;cases q with
    | nil=>rfl
    | cons _ _=>simp[ay]at d
   | cons a p ih=>intro q d;cases q with
    | nil=>simp[ay]at d
    | cons c q=>
     simp only[ay,aB]at d;simp only[bv,bf];rw[jS n a m c d.1,ih q d.2]
  simp only[av,aZ];rw[key _ _ e]
theorem bz{n:Nat}{x:Tm n}:bq n x=0 ↔ bT n x=true/\fm n x<=12/\sz n x<=200:=by
 rw[<-fZ];unfold vH;constructor
 ·intro a;split at a
  ·rename_i c;split at a
   ·cases a
   ·rename_i f;exact⟨c,by omega,by omega⟩
  ·cases a
 ·rintro ⟨b,d,e⟩;rw[if_pos b,if_neg (by omega)]
theorem Ek:(n:Nat)->(x:Tm n)->aA ⟨n,x⟩->((av n x).length:Int)<=sz n x+1
 | 0,_,h=>(cZ h).elim
 | n+1,x,h=>by
  have c:=eq (bu n x) (h (bu n x) (by simp[av,bu]));by_cases a:x.1.1=4
  ·have key:∀l:List (Tm n),(∀y∈l,aA ⟨n,y⟩)->((l.flatMap λy=>av n y).length:Int)<=(l.map λy=>1+sz n y).sum:=by
     intro l
     induction l with
     | nil=>intro _;simp
     | cons y l ih=>
      intro b;have g:=Ek n y (b y (by simp));have i:=ih λf e=>b f (bH _ e);simp only[bv,bf,aI,bC];omega
   have:=key x.2.2 λy d=>aR n x y h d;simp only[av,aZ,sz,if_pos a];omega
  ·have:x.2.2=[]:=bB (c.2.2.2.2 a);simp[av,this,sz,a]
theorem nu{n:Nat}{x:Tm n}(a:bq n x=0):(av n x).length<=201:=by
 obtain⟨b,_,c⟩:=bz.1 a;have:=Ek n x (aJ.2 b);omega
theorem gQ{m:Nat}{b:List (Tm m)}(a:fV m b=true):b.length=4/\∀y∈b,bq m y=0/\aA ⟨m,y⟩/\(bN ⟨m,y⟩=6\/aH m y=true):=by
 unfold fV at a;simp only[aB,bX,b9]at a;refine⟨a.1,λy c=>?_⟩;have:=a.2 y c;unfold AL at this;simp only[aB,g9,bV]at this;refine⟨this.1,aJ.2 (bz.1 this.1).1,?_⟩;rw[fj];exact this.2
theorem pE{N n:Nat}(e:n<=N)(x:Tm n)(c:aA ⟨n,x⟩):aA ⟨N,aN N n x⟩:=by
 cases n with
 | zero=>exact(cZ c).elim
 | succ n=>
  obtain⟨a,rfl⟩:∃a,N=a+1:=⟨N-1,by omega⟩;intro d b;simp only at b;rw[mJ a n (by omega) x]at b;exact c d b
theorem uR{N:Nat}{x:Tm (N+1)}(c:cq (bu N x)=true)(k:∀y∈x.2.2,aA ⟨N,y⟩):aA ⟨N+1,x⟩:=by
 intro b a;simp only[av,cB,jg]at a;rcases a with rfl|⟨y,d,a⟩
 ·exact c
 ·exact k y d b a
theorem vi(m:Nat)(b:List (Tm m))(self:Int)(k:1<=self/\self<=99)(i:∀y∈b,aA ⟨m,y⟩):(n:Nat)->(x:Tm n)->aA ⟨n,x⟩->(g:Tm (m+n))->vl m b self n x=some g->aA ⟨m+n,g⟩
 | 0,_,_,_,d=>by simp[vl]at d
 | n+1,x,hr,g,d=>by
  have r:=hr (bu n x) (by simp[av,bu]);have B:x.2.2.length<=8:=lH (bu n x) r;simp only[vl]at d;split at d
  ·obtain⟨y,e,d⟩:=br.1 d;split at d
   ·cases d
   ·obtain rfl:=au d;exact pE (N:=m+n+1) (by omega) y (i y (aG e))
  ·split at d
   ·cases d
   ·split at d
    ·split at d
     ·obtain rfl:=au d;exact uR (N:=m+n) (by simp[cq,bJ,bu,pY,k]) (by intro y e;cases e)
     ·split at d
      ·obtain⟨a,h,d⟩:=br.1 d;obtain⟨c,z,d⟩:=br.1 d;obtain⟨u,w,d⟩:=br.1 d;obtain⟨v,A,d⟩:=br.1 d;unfold s8 at d;split at d
       ·rename_i o;obtain rfl:=au d;simp only[yJ,aB]at o;exact uR (N:=m+n) (by simp[cq,bJ,bu,o.2]) (by intro y e;cases e)
       ·cases d
      ·split at d
       ·obtain⟨a,h,d⟩:=br.1 d;split at d
        ·obtain rfl:=au d;exact pE (N:=m+n+1) (by omega) a (aR n x a hr (aG h))
        ·cases d
       ·obtain⟨l,t,rfl⟩:=cd.1 d;obtain⟨p,q⟩:=qi _ _ _ t;refine uR (N:=m+n) ?_ λy e=>?_
        ·have:(l.length:Int)<=8:=by omega
         simp[cq,cU,bu,this]
        ·obtain⟨f,j⟩:=cJ e;have s:f<x.2.2.length:=by rw[<-p];exact(aM.1 j).1
         exact vi m b self k i n x.2.2[f] (aR n x _ hr (je _)) y (q f _ y (aE s) j)
    ·obtain rfl:=au d;exact pE (N:=m+n+1) (by omega) x hr
def Eu(a:Int)(bd:Bool)(self:Int):Int:=if a=0 then if bd then if 1<=self/\self<=99 then 0 else 1 else 5 else a
def np{N:Nat}(E:Int)(o:Option (Tm N)):Option (Tm N):=if E=0 then o.bind λa=>if bq N a=0 then some a else none else none
def Et{N:Nat}(E:Int)(o:Option (Tm N)):Int:=if E=0 then if o.isSome then 0 else 7 else E
theorem Ef{n:Nat}{p:List (Tm n)}{s:ByteArray}{k:Nat}(a:p.length≠1+k):tm n p s k=false:=by simp[tm,a]
theorem MV{n:Nat}{p:List (Tm (n+1))}{s:ByteArray}{k:Nat}{y:Tm (n+1)}(a:p.length=1+k)(b:p[0]?=some y):tm (n+1) p s k=(y.1.1==2 && y.1.2.2.toList==s.toList):=by
 simp[tm,a,b,bN,fX,bu]
theorem FB(a:Option Addr)(len pc:Nat)(s:ByteArray)(k:Nat)(w:World)(f:k<=8)(c:len≠1+k):ak 181 #[.slice a len pc,ae s,ab k] w λe w'=>e=.returned (.bool false)/\w'=w:=by
 have d:((len:Int)==1+(k:Int))=false:=by simp;omega
 have b:IntKind.i64.wrap (1+(k:Int))=1+(k:Int):=by rw[IntKind.wrap];simp[IntKind.bits,IntKind.signed];omega
 go_enter Tryz.func181,Tryz.ntmps181;go_wp2_with fail
 go_ret
 exact⟨rfl,rfl⟩
theorem FA(a po len pc:Nat)(s:ByteArray)(k:Nat)(b:Int)(c:ByteArray)(w:World)(l:len<=8)(j:k<=8)(g:len=1+k)(c0:w.cell? ⟨a,po,none⟩=some (ab b))(d:w.cell? ⟨a,po+2,none⟩=some (ae c)):ak 181 #[.slice (some ⟨a,po,none⟩) len pc,ae s,ab k] w λe w'=>e=.returned (.bool (b==2 && c.toList==s.toList))/\w'=w:=by
 have h:((len:Int)==1+(k:Int))=true:=by simp;omega
 have f:IntKind.i64.wrap (1+(k:Int))=1+(k:Int):=by rw[IntKind.wrap];simp[IntKind.bits,IntKind.signed];omega
 have i:(0:Int)<(len:Int):=by omega
 cases hx:b==2
 ·go_enter Tryz.func181,Tryz.ntmps181;go_wp2_with fail
  go_ret
  exact⟨rfl,rfl⟩
 ·go_enter Tryz.func181,Tryz.ntmps181;go_wp2_with fail
  go_ret
  exact⟨rfl,rfl⟩
theorem Cy(n:Nat)(p:List (Tm n))(a:Option Addr)(pc B:Nat)(s:ByteArray)(k:Nat)(w:World)(d:ft B w n p a)(m:p.length<=8)(h:k<=8):ak 181 #[.slice a p.length pc,ae s,ab k] w λe w'=>e=.returned (.bool (tm n p s k))/\w'=w:=by
 by_cases c:p.length=1+k
 ·rcases d with d|⟨b,o,rfl,u,d⟩
  ·rw[d]at c;simp at c;omega
  ·obtain⟨f,i⟩:∃f,p[0]?=some f:=⟨p[0]'(by omega),aE _⟩;obtain⟨g,t⟩:=d 0 f i;cases n with
   | zero=>exact g.elim
   | succ n=>
    rw[MV c i];obtain⟨j,q,l,r⟩:=g;exact FA b o p.length pc s k f.1.1 f.1.2.2 w m h c (by simpa using j) (by simpa using l)
 ·rw[Ef c];exact FB a p.length pc s k w h c
def jA(N:Nat)(o:Option (Tm N))(w:World)(e:Ending)(w':World):Prop:=
 ∃(a:Tm N)(b:Bool),e=.returned (.tuple #[df N a,.bool b])/\Hid (ai w w'/\In w'.heap.size w' N a/\bZ (λd=>w.heap.size<=d) N a/\b=o.isSome/\∀c,o=some c->aw N a N c=true)
def Ms(m:Nat)(b:List (Tm m))(self:Int)(n:Nat):Prop:=∀(x:Tm n)(a:Option Addr)(c B:Nat)(w:World),In B w n x->aA ⟨n,x⟩->ft B w m b a->B<=w.heap.size->
 ak 164 #[.agg #[.slice a 4 c,ab self],df n x] w (jA (m+n) (vl m b self n x) w)
def Mu{N:Nat}(o:Option (Tm N))(w:World)(e:Ending)(w':World):Prop:=
 ∃(c:Int)(b:Bool),e=.returned (.tuple #[ab c,.bool b])/\Hid (ai w w'/\b=(o.isSome && o.all λa=>bN ⟨N,a⟩==1)/\∀a,o=some a->c=oS N a)
theorem CN{N:Nat}{o:Option (Tm (N+1))}{w w1 w2:World}{y:Tm (N+1)}{r:Bool}(f:ai w w2)(d:ai w1 w2/\In w2.heap.size w2 (N+1) y/\bZ (λq=>w1.heap.size<=q) (N+1) y/\r=o.isSome/\∀a,o=some a->aw (N+1) y (N+1) a=true)(c:Bool)(g:c=(r && y.1.1==1)):ai w w2/\c=(o.isSome && o.all λa=>bN ⟨N+1,a⟩==1)/\∀a,o=some a->y.1.2.1=oS (N+1) a:=by
 obtain⟨_,_,_,e,b⟩:=d;refine⟨f,?_,λa h=>?_⟩
 ·rw[g,e];cases ho:o with
  | none=>rfl
  | some a=>
   have:=(bA (b a ho)).1;simp[bN,this]
 ·have:=(bA (b a h)).1;simp[oS,fX,bu,this]
theorem GU{w w':World}{a b:Obj}(d:Below ((w.alloc a).alloc b).heap.size ((w.alloc a).alloc b) w'):ai w w':=by
 have c:ai w ((w.alloc a).alloc b):=((am _ _).alloc (aj _) _).alloc (by simp) _;exact c.trans (d.mono c.size)
theorem sy(N:Nat)(o:Option (Tm (N+1)))(a:Option Addr)(c:Nat)(self:Int)(k l:Int)(m:ByteArray)(xa:Option Addr)(n xc:Nat)(w:World)(i:Hid (∀w1,ai w w1->ak 164 #[.agg #[.slice a 4 c,ab self],.agg #[ab k,ab l,ae m,.slice xa n xc]] w1 (jA (N+1) o w1))):ak 186 #[.agg #[.slice a 4 c,ab self],.agg #[ab k,ab l,ae m,.slice xa n xc]] w (Mu o w):=by
 go_enter Tryz.func186,Tryz.ntmps186;go_wp2_with fail;refine(i.out _ (((am _ _).alloc (aj _) _).alloc (by simp) _)).mono ?_;rintro s f ⟨d,q,rfl,e⟩;have HB:Hid (ai w f):=GU e.out.1;have j:df (N+1) d=.agg #[ab d.1.1,ab d.1.2.1,ae d.1.2.2,.slice d.2.1.1 d.2.2.length d.2.1.2]:=rfl;rw[j];clear j i;have h:=λr p=>ao (CN HB.out e.out r p);clear HB e;have g:Hid (∀o:Obj,ai w f->ai w (f.alloc o).drew):=λo b=>(b.alloc b.size o).drew;cases q
 ·go_wp2_with fail;go_region;go_wp2_with fail
  go_ret2
  have b:=(h false rfl).out;exact⟨_,_,rfl,g.out _ b.1,b.2⟩
 ·go_wp2_with fail;go_region;go_wp2_with fail
  go_ret2
  have b:=(h _ rfl).out;exact⟨_,_,rfl,g.out _ b.1,b.2⟩
def ND{N:Nat}(o:Option (Tm N)):Prop:=∀a,o=some a->bN ⟨N,a⟩=1-> -1099511627776<=oS N a/\oS N a<=1099511627776
def vF{N:Nat}(b d:Option (Tm N)):Option (Tm (N+1)):=b.bind λa=>d.bind λc=>s8 N a c
theorem LB{N:Nat}{a d:Option (Tm N)}(b:(a.isSome && a.all λe=>bN ⟨N,e⟩==1)=false):vF a d=none:=by
 cases a with
 | none=>rfl
 | some f=>
  simp at b;cases d with
  | none=>rfl
  | some c=>simp[vF,s8,yJ,b]
theorem JD{N:Nat}{d a:Option (Tm N)}(b:(a.isSome && a.all λe=>bN ⟨N,e⟩==1)=false):vF d a=none:=by
 cases d with
 | none=>rfl
 | some f=>
  cases a with
  | none=>rfl
  | some c=>
   simp at b;simp[vF,s8,yJ,b]
theorem JE{N:Nat}{b d:Option (Tm N)}{e v:Int}(i:true=(b.isSome && b.all λa=>bN ⟨N,a⟩==1))(j:true=(d.isSome && d.all λa=>bN ⟨N,a⟩==1))(k:∀a,b=some a->e=oS N a)(l:∀a,d=some a->v=oS N a)(m:ND b)(n:ND d):vF b d=(if -1099511627776<=e+v/\e+v<=1099511627776 then some (bJ 1 (e+v) N)else none)/\(-1099511627776<=e/\e<=1099511627776)/\(-1099511627776<=v/\v<=1099511627776):=by
 cases b with
 | none=>simp at i
 | some f=>
  cases d with
  | none=>simp at j
  | some c=>
   have g:bN ⟨N,f⟩=1:=by simpa using i.symm
   have h:bN ⟨N,c⟩=1:=by simpa using j.symm
   rw[k f rfl,l c rfl];refine⟨?_,m f rfl g,n c rfl h⟩;simp[vF,s8,yJ,g,h,pY]
theorem iT:dk 0:=by simp[dk]
theorem kE(N:Nat)(k a:Int)(b:dk k)(c:dk a)(B:Nat)(w:World)(P:Nat->Prop):In B w (N+1) (bJ k a N)/\bZ P (N+1) (bJ k a N):=
 ⟨⟨⟨b,c,aF _,aF _,aF _⟩,ag rfl⟩,ag rfl⟩
theorem wb(N:Nat)(k a:Int):aw (N+1) (bJ k a N) (N+1) (bJ k a N)=true:=cX rfl rfl
theorem jU{N:Nat}{w w':World}(a:ai w w'):jA (N+1) none w (.returned (.tuple #[.agg #[ab 0,ab 0,ae .empty,.slice none 0 0],.bool false])) w':=
 ⟨bJ 0 0 N,false,rfl,a,(kE N 0 0 iT iT _ _ (λ_=>True)).1,(kE N 0 0 iT iT 0 w _).2,rfl,λc b=>by cases b⟩
theorem xj{N:Nat}{w w':World}(d:ai w w')(k a:Int)(b:dk k)(c:dk a):jA (N+1) (some (bJ k a N)) w (.returned (.tuple #[.agg #[ab k,ab a,ae .empty,.slice none 0 0],.bool true])) w':=
 ⟨bJ k a N,true,rfl,d,(kE N k a b c _ _ (λ_=>True)).1,(kE N k a b c 0 w _).2,rfl,λf e=>by obtain rfl:=au e;exact wb N k a⟩
theorem mG(w:World)(a b c d:Obj):ai w ((((w.alloc a).alloc b).alloc c).alloc d):=((((am _ _).alloc (aj _) _).alloc (by simp) _).alloc (by simp;omega) _).alloc (by simp;omega) _
def ng(q:Nat)(w:World):Prop:=(w.cell? ⟨q,0,none⟩=some (ab 0)/\w.cell? ⟨q,1,none⟩=some (ab 0)/\w.cell? ⟨q,2,none⟩=some (ae .empty)/\w.cell? ⟨q,3,none⟩=some (.slice none 0 0))/\(w.frozen? ⟨q,0,none⟩=false/\w.frozen? ⟨q,1,none⟩=false/\w.frozen? ⟨q,2,none⟩=false/\w.frozen? ⟨q,3,none⟩=false)/\q<w.heap.size
theorem ng.below{q:Nat}{w w':World}(i:ng q w)(c:ai w w'):ng q w':=by
 obtain⟨⟨j,k,l,m⟩,⟨e,f,g,h⟩,d⟩:=i;have a:=λo=>c.cell (p:=⟨q,o,none⟩) d;have b:=λo=>c.frozen (p:=⟨q,o,none⟩) d;exact⟨⟨(a 0).trans j,(a 1).trans k,(a 2).trans l,(a 3).trans m⟩,⟨(b 0).trans e,(b 1).trans f,(b 2).trans g,(b 3).trans h⟩,aL d c.size⟩
theorem Cn{w w':World}{s0 s1 i j k l y0 y1 y2 e:Value}{t1 t2 g h:TypeId}(a:Below ((((w.alloc (.cells #[s0,s1] t1)).alloc (.cells #[i,j,k,l] t2)).alloc (.cells #[y0,y1,y2,e] g)).alloc (.cells #[ab 0,ab 0,ae .empty,.slice none 0 0] h)).heap.size ((((w.alloc (.cells #[s0,s1] t1)).alloc (.cells #[i,j,k,l] t2)).alloc (.cells #[y0,y1,y2,e] g)).alloc (.cells #[ab 0,ab 0,ae .empty,.slice none 0 0] h)) w'):(w'.cell? ⟨w.heap.size,0,none⟩=some s0/\w'.cell? ⟨w.heap.size,1,none⟩=some s1)/\ (w'.cell? ⟨w.heap.size+1+1,0,none⟩=some y0/\w'.cell? ⟨w.heap.size+1+1,1,none⟩=some y1/\w'.cell? ⟨w.heap.size+1+1,2,none⟩=some y2/\w'.cell? ⟨w.heap.size+1+1,3,none⟩=some e)/\ng (w.heap.size+1+1+1) w':=by
 have m:=a.size;simp at m;have f:=λo=>a.cell (p:=⟨w.heap.size,o,none⟩) (by simp;omega);have b:=λo=>a.cell (p:=⟨w.heap.size+1+1,o,none⟩) (by simp;try omega);have d:=λo=>a.cell (p:=⟨w.heap.size+1+1+1,o,none⟩) (by simp);have c:=λo=>a.frozen (p:=⟨w.heap.size+1+1+1,o,none⟩) (by simp)
 exact⟨⟨(f 0).trans (by simp[go_sem]),(f 1).trans (by simp[go_sem])⟩,⟨(b 0).trans (by simp[go_sem]),(b 1).trans (by simp[go_sem]),(b 2).trans (by simp[go_sem]),(b 3).trans (by simp[go_sem])⟩,
  ⟨(d 0).trans (by simp[go_sem]),(d 1).trans (by simp[go_sem]),(d 2).trans (by simp[go_sem]),(d 3).trans (by simp[go_sem])⟩,⟨(c 0).trans (by simp[go_sem]),(c 1).trans (by simp[go_sem]),(c 2).trans (by simp[go_sem]),(c 3).trans (by simp[go_sem])⟩,by omega⟩
theorem cT{w w':World}{q:Nat}(a:ai w w')(c:w.heap.size<=q)(v0 v1 v2 v3:Value):ai w (cG w' q 0 v0 v1 v2 v3):=
 ⟨a.os,a.tape,a.output,ax a.size (dm (bj _ _ _ _).symm),λk b=>(aT (by omega) _ _ _ _).trans (a.block k b)⟩
theorem JG(N:Nat)(p q:Option (Tm N))(B:Hid (ND p))(C:Hid (ND q))(a:Option Addr)(c:Nat)(self:Int)(D E:Int)(F:ByteArray)(xa:Option Addr)(G xc:Nat)(y0 y1:Int)(y2:ByteArray)(ya:Option Addr)(yl yc:Nat)(w:World)(u:Hid (∀w1,ai w w1->ak 186 #[.agg #[.slice a 4 c,ab self],.agg #[ab D,ab E,ae F,.slice xa G xc]] w1 (Mu p w1)))(x:Hid (∀w1,ai w w1->ak 186 #[.agg #[.slice a 4 c,ab self],.agg #[ab y0,ab y1,ae y2,.slice ya yl yc]] w1 (Mu q w1))):ak 182 #[.agg #[.slice a 4 c,ab self],.agg #[ab D,ab E,ae F,.slice xa G xc],.agg #[ab y0,ab y1,ae y2,.slice ya yl yc]] w (jA (N+1) (vF p q) w):=by
 obtain⟨o,t⟩:∃o,o=vF p q:=⟨_,rfl⟩;rw[<-t];have l:=ao t;clear t;go_enter Tryz.func182,Tryz.ntmps182;go_wp2_with fail;refine(u.out _ (mG _ _ _ _ _)).mono ?_;rintro O V ⟨b,j,rfl,d⟩;obtain⟨⟨T,U⟩,⟨K,d1,L,M⟩,A⟩:=Cn d.out.1;have r:=ao A;have HB:Hid (ai w V):=(mG _ _ _ _ _).trans (d.out.1.mono (mG _ _ _ _ _).size);have m:Hid (j=_/\_):=d.out.2;clear u d A;cases j
 ·have e:Hid (o=none):=l.out.trans (LB m.out.1.symm);obtain⟨⟨f,g,h,i⟩,⟨P,Q,R,S⟩,_⟩:=r.out;go_wp2_with fail;rw[e.out];exact ar (v:=.tuple #[.agg #[ab 0,ab 0,ae .empty,.slice none 0 0],.bool false]) (by simp[results,Tryz.results182,go_sem,f,g,h,i];rfl) rfl (jU (cT HB.out (by omega) _ _ _ _))
 ·go_wp2_with fail;refine(x.out _ HB.out).mono ?_;rintro O W ⟨v,j,rfl,d⟩;have k:Hid (ai w W):=HB.out.trans (d.out.1.mono HB.out.size);have n:Hid (j=_/\_):=d.out.2;have H:=ao (r.out.below d.out.1);obtain⟨⟨f,g,h,i⟩,⟨P,Q,R,S⟩,_⟩:=H.out;clear x d HB T U K d1 L M r;cases j
  ·have e:Hid (o=none):=l.out.trans (JD n.out.1.symm);go_wp2_with fail;rw[e.out];exact ar (v:=.tuple #[.agg #[ab 0,ab 0,ae .empty,.slice none 0 0],.bool false]) (by simp[results,Tryz.results182,go_sem,f,g,h,i];rfl) rfl (jU (cT k.out (by omega) _ _ _ _))
  ·obtain⟨es,⟨Y,Z⟩,aa,ad⟩:=JE m.out.1 n.out.1 m.out.2 n.out.2 B.out C.out;have s:Hid (o=if -1099511627776<=b+v/\b+v<=1099511627776 then some (bJ 1 (b+v) N)else none):=l.out.trans es;have X:IntKind.i64.wrap (b+v)=b+v:=by rw[IntKind.wrap];simp[IntKind.bits,IntKind.signed];omega
   clear l m n es B C;by_cases y:b+v< -1099511627776
   ·have I:decide (b+v< -1099511627776)=true:=by simpa using y
    have e:Hid (o=none):=s.out.trans (if_neg (by omega));go_wp2_with fail;rw[e.out];exact ar (v:=.tuple #[.agg #[ab 0,ab 0,ae .empty,.slice none 0 0],.bool false]) (by simp[results,Tryz.results182,go_sem,f,g,h,i];rfl) rfl (jU (cT k.out (by omega) _ _ _ _))
   ·have I:decide (b+v< -1099511627776)=false:=by simpa using y
    by_cases z:1099511627776<b+v
    ·have J:decide (1099511627776<b+v)=true:=by simpa using z
     have e:Hid (o=none):=s.out.trans (if_neg (by omega));go_wp2_with fail;rw[e.out];exact ar (v:=.tuple #[.agg #[ab 0,ab 0,ae .empty,.slice none 0 0],.bool false]) (by simp[results,Tryz.results182,go_sem,f,g,h,i];rfl) rfl (jU (cT k.out (by omega) _ _ _ _))
    ·have J:decide (1099511627776<b+v)=false:=by simpa using z
     have e:Hid (o=some (bJ 1 (b+v) N)):=s.out.trans (if_pos (by omega));go_wp2_with fail;rw[e.out];exact ar (v:=.tuple #[.agg #[ab 1,ab (b+v),ae .empty,.slice none 0 0],.bool true]) (by simp[results,Tryz.results182,go_sem,f,g,h,i];rfl) rfl (xj (cT k.out (by omega) _ _ _ _) 1 (b+v) (by simp[dk]) ⟨by omega,by omega⟩)
def vh{n N:Nat}(f:Tm n->Option (Tm N))(p:List (Tm n)):List (Tm N):=p.map λy=>(f y).getD (aN N 0 ())
def L6{n N:Nat}(f:Tm n->Option (Tm N))(p:List (Tm n))(k:Nat):Prop:=∀(i:Nat)(y:Tm n),i<k->p[i]?=some y->(f y).isSome=true
theorem JV{n N:Nat}{f:Tm n->Option (Tm N)}{p:List (Tm n)}{k:Nat}(c:L6 f p k)(h:p.length<=k):cC f p=some (vh f p):=by
 refine vO f _ p λb e=>?_;obtain⟨g,a⟩:=cJ e;have i:=(aM.1 a).1;have:=c g b (by omega) a;cases d:f b with
 | none=>rw[d]at this;cases this
 | some j=>rfl
theorem L6.next{n N:Nat}{f:Tm n->Option (Tm N)}{p:List (Tm n)}{k:Nat}{x:Tm n}(d:L6 f p k)(g:p[k]?=some x)(e:true=(f x).isSome):L6 f p (k+1):=by
 intro b h i a;by_cases c:b=k
 ·subst c;rw[g]at a;obtain rfl:=au a;exact e.symm
 ·exact d b h (by omega) a
theorem LN{n N:Nat}{f:Tm n->Option (Tm N)}{p:List (Tm n)}{k:Nat}{x:Tm n}(d:p[k]?=some x)(c:true=(f x).isSome):∃a,(vh f p)[k]?=some a/\f x=some a:=by
 cases b:f x with
 | none=>rw[b]at c;cases c
 | some a=>exact⟨a,by simp[vh,d,b],rfl⟩
theorem GR{N:Nat}{P:List (Tm N)}{w wr:World}{g len k:Nat}{l:List (Tm N)}(j:tC N P len g k l wr)(v:P.length=len)(p:k=len)(n:ai w wr)(x:len<=8)(q:Nat)(r:w.heap.size<=q)(y:q<g)(v0 v1 v2 v3:Value):jA (N+1) (some (cU N P)) w (.returned (.tuple #[.agg #[ab 4,ab 0,ae .empty,.slice (some ⟨g,0,none⟩) len len],.bool true])) (cG wr q 0 v0 v1 v2 v3):=by
 obtain⟨m,c,e,f⟩:=j;subst p;rw[bw (by omega)]at f;rw[gI,mj,ed]at c;refine⟨((4,0,.empty),(some ⟨g,0,none⟩,k),l),true,?_,cT n r _ _ _ _,?_,?_,rfl,λz t=>?_⟩
 ·simp only[df,m]
 ·refine⟨⟨by simp[dk],by simp[dk],aF _,by simp only;omega,by unfold maxLen;simp only;omega⟩,ah ⟨g,0,rfl,by rw[bj];exact c.lt.2,λh b a=>?_⟩⟩;obtain⟨i,u⟩:=e b (aG a);have o:=c.cells h ⟨N,b⟩ (by simp[a]);refine⟨dr.block (aT (by omega) _ _ _ _) ?_,?_⟩
  ·cases N with
   | zero=>exact i.elim
   | succ N=>
    rw[cP];exact o
  ·rw[bj];exact In.off (P:=λd=>g<d) (λd s=>aT (by omega) _ _ _ _) u i
 ·exact ah ⟨g,0,rfl,by omega,λh b a=>(e b (aG a)).2.mono λd s=>by omega⟩
 ·obtain rfl:=au t;exact cX rfl f
theorem JW{n N:Nat}(f:Tm n->Option (Tm N))(p:List (Tm n)):(vh f p).length=p.length:=by simp[vh]
theorem tC.grow{N:Nat}{P:List (Tm N)}{len g k:Nat}{l:List (Tm N)}{w w':World}(e:tC N P len g k l w)(a:ai w w'):tC N P len g k l w':=by
 obtain⟨f,h,b,i⟩:=e;exact⟨f,h.below a,λd c=>⟨((b d c).1.below a).mono a.size,(b d c).2⟩,i⟩
theorem ng.block{q:Nat}{w w':World}(h:ng q w)(c:w'.heap[q]?=w.heap[q]?)(n:w.heap.size<=w'.heap.size):ng q w':=by
 obtain⟨⟨i,j,k,l⟩,⟨d,e,f,g⟩,m⟩:=h;have a:=λo=>bm c o;have b:∀o,w'.frozen? ⟨q,o,none⟩=w.frozen? ⟨q,o,none⟩:=λo=>by simp[World.frozen?,c]
 exact⟨⟨(a 0).trans i,(a 1).trans j,(a 2).trans k,(a 3).trans l⟩,⟨(b 0).trans d,(b 1).trans e,(b 2).trans f,(b 3).trans g⟩,aL m n⟩
theorem uh{w w':World}(a:w.grownBy w' none):ai w w':=⟨a.os,a.tape,a.output,a.size,λk b=>a.block k b (by simp)⟩
theorem xD{w w':World}{s0 s1:Value}{t1 t2:TypeId}(f:((w.alloc (.cells #[s0,s1] t1)).alloc (.cells #[ab 0,ab 0,ae .empty,.slice none 0 0] t2)).grownBy w' none):ai w w'/\(w'.cell? ⟨w.heap.size,0,none⟩=some s0/\w'.cell? ⟨w.heap.size,1,none⟩=some s1)/\ng (w.heap.size+1) w':=by
 have a:=uh f;have g:=a.size;simp at g;have d:ai w ((w.alloc (.cells #[s0,s1] t1)).alloc (.cells #[ab 0,ab 0,ae .empty,.slice none 0 0] t2)):=((am _ _).alloc (aj _) _).alloc (by simp) _;have e:=λo=>a.cell (p:=⟨w.heap.size,o,none⟩) (by simp;omega);have c:=λo=>a.cell (p:=⟨w.heap.size+1,o,none⟩) (by simp);have b:=λo=>a.frozen (p:=⟨w.heap.size+1,o,none⟩) (by simp)
 exact⟨d.trans (a.mono d.size),⟨(e 0).trans (by simp[go_sem]),(e 1).trans (by simp[go_sem])⟩,
  ⟨(c 0).trans (by simp[go_sem]),(c 1).trans (by simp[go_sem]),(c 2).trans (by simp[go_sem]),(c 3).trans (by simp[go_sem])⟩,⟨(b 0).trans (by simp[go_sem]),(b 1).trans (by simp[go_sem]),(b 2).trans (by simp[go_sem]),(b 3).trans (by simp[go_sem])⟩,by omega⟩
theorem Bv(m:Nat)(b:List (Tm m))(self:Int)(n:Nat)(ih:Hid (Ms m b self n))(p:List (Tm n))(len:Nat)(W:Hid (p.length=len))(pa:Option Addr)(pc:Nat)(a:Option Addr)(c B:Nat)(w:World)(a2:len<=8)(V:Hid (ft B w n p pa))(a4:Hid (∀y∈p,aA ⟨n,y⟩))(aB:Hid (ft B w m b a))(H:B<=w.heap.size):ak 183 #[.agg #[.slice a 4 c,ab self],.slice pa len pc] w (jA (m+n+1) ((cC (λy=>vl m b self n y) p).map (cU (m+n))) w):=by
 obtain⟨o,T⟩:∃o,o=(cC (λy=>vl m b self n y) p).map (cU (m+n)):=⟨_,rfl⟩;rw[<-T];have av:=ao T;clear T;obtain⟨a6,aF,aL,aM,aN⟩:=bQ fY;go_enter Tryz.func183,Tryz.ntmps183;go_wp2_with (at_make;refine km _ rfl _ _ 28 rfl _ 30 a6 _ 4 Tryz.underlying28 aF aL aM _ _ _ _ len rfl rfl rfl rfl (by rw[aN];omega) (by unfold maxLen;omega) (aj _) ?_;intro h aI S;have t:=ao (qr (m+n) (vh (λy=>vl m b self n y) p) len aI);have aS:=ao (uh S);have ay:=ao (xD S);clear aI S aF aL aM aN);have es:((w.alloc (.cells #[.slice a 4 c,ab self] 247)).alloc (.cells #[ab 0,ab 0,ae ⟨#[]⟩,.slice none 0 0] 30)).heap.size=w.heap.size+1+1:=by simp
 rw[es]at t;clear es aS;obtain⟨aC,aD,D⟩:=ay.out
 have aq:Hid (ai w h/\(h.cell? ⟨w.heap.size,0,none⟩=some (.slice a 4 c)/\h.cell? ⟨w.heap.size,1,none⟩=some (ab self))/\ng (w.heap.size+1) h/\L6 (λy=>vl m b self n y) p 0/\∃l,tC (m+n) (vh (λy=>vl m b self n y) p) len (w.heap.size+1+1) 0 l h):=
  ⟨aC,aD,D,λs y bp _=>by omega,[],t.out⟩
 clear ay t aC aD D;go_wp2_with fail;go_loopw [16] (λs wr=>∃k:Nat,k<=len/\s=ab k/\Hid (ai w wr/\(wr.cell? ⟨w.heap.size,0,none⟩=some (.slice a 4 c)/\wr.cell? ⟨w.heap.size,1,none⟩=some (ab self))/\ng (w.heap.size+1) wr/\L6 (λy=>vl m b self n y) p k/\∃l,tC (m+n) (vh (λy=>vl m b self n y) p) len (w.heap.size+1+1) k l wr)) (λs _=>len-(intOf s).toNat)
 case atStart=>exact⟨0,by omega,rfl,aq.out⟩
 case round=>
  obtain⟨k,bq,rfl,aw⟩:=hrel;clear aq;obtain⟨i,⟨Z,aa⟩,G,x,l,j⟩:Hid (ai w wr)/\(wr.cell? ⟨w.heap.size,0,none⟩=some (.slice a 4 c)/\wr.cell? ⟨w.heap.size,1,none⟩=some (ab self))/\Hid (ng (w.heap.size+1) wr)/\Hid (L6 (λy=>vl m b self n y) p k)/\∃l,Hid (tC (m+n) (vh (λy=>vl m b self n y) p) len (w.heap.size+1+1) k l wr):=aw.out;clear aw;by_cases aH:k<len
  ·obtain⟨d,u⟩:∃d,p[k]?=some d:=⟨p[k]'(by rw[W.out];exact aH),aE _⟩;obtain⟨E,po,rfl,a3,aJ⟩:∃E po,pa=some ⟨E,po,none⟩/\E<B/\∀(s:Nat)(y:Tm n),p[s]?=some y->dr w E (po+s*4) n y/\In B w n y:=by
    rcases V.out with P|P
    ·rw[P]at u;simp at u
    ·exact P
   obtain⟨I,J⟩:=aJ k d u;have N:=ao u;have aV:=ao (a4.out d (aG u));replace I:=I.below (i.out.mono H) a3;replace J:=J.below (i.out.mono H);have Q:B<=wr.heap.size:=ax H i.out.size
   have F:Hid (∀h,ai wr h->ak 164 #[.agg #[.slice a 4 c,ab self],df n d] h (jA (m+n) (vl m b self n d) h)):=
    λh g=>ih.out d a c B h (J.below (g.mono Q)) aV.out ((aB.out.below (i.out.mono H)).below (g.mono Q)) (ax Q g.size)
   obtain⟨Y,U⟩:∃Y,Y=vl m b self n d:=⟨_,rfl⟩;rw[<-U]at F;have L:=ao U;clear aJ u V U J;cases n with
   | zero=>exact I.elim
   | succ n=>
   obtain⟨bd,be,bf,bg⟩:=I;have A:df (n+1) d=.agg #[ab d.1.1,ab d.1.2.1,ae d.1.2.2,.slice d.2.1.1 d.2.2.length d.2.1.2]:=rfl;rw[A]at F;clear A;generalize d.2.2.length=bu at*;have br:(0:Int)<=(k:Int):=by omega
   have bs:(k:Int)<(len:Int):=by omega
   have bt:E<wr.heap.size:=by omega
   have aK:w.heap.size<wr.heap.size:=by have:=G.out.2.2;omega
   go_wp2_with fail;refine(F.out _ ((am _ _).alloc (aj _) _)).mono ?_;rintro bn e ⟨y,a8,rfl,q⟩;have r:Hid (ai wr e):=((am _ _).alloc (aj _) _).trans (q.out.1.mono (by simp));have az:Hid (ai w e):=i.out.trans (r.out.mono i.out.size);have O:=ao (G.out.below r.out);replace Z:=(ap r.out _ _ aK).trans Z;replace aa:=(ap r.out _ _ aK).trans aa;have A:df (m+(n+1)) y=.agg #[ab y.1.1,ab y.1.2.1,ae y.1.2.2,.slice y.2.1.1 y.2.2.length y.2.1.2]:=rfl;rw[A];clear F bd be bf bg G A;cases a8
   ·have K:Hid (o=none):=by
      have g:vl m b self (n+1) d=none:=by
       have:=q.out.2.2.2.1;rw[<-L.out];cases Y with
       | none=>rfl
       | some ad=>cases this
      show o=none;rw[av.out,lA _ p k d N.out g];rfl
    obtain⟨⟨af,ag,ah,al⟩,⟨aX,aY,aZ,a0⟩,aP⟩:=O.out;clear q j x;go_wp2_with fail;rw[K.out];exact ar (v:=.tuple #[.agg #[ab 0,ab 0,ae .empty,.slice none 0 0],.bool false]) (by simp[results,Tryz.results183,go_sem,af,ag,ah,al,aP];rfl) rfl (jU ((cT az.out (by omega) _ _ _ _).alloc (by rw[bj];omega) _))
   ·have R:true=(vl m b self (n+1) d).isSome:=by rw[<-L.out];exact q.out.2.2.2.1
    obtain⟨ad,D,aO⟩:=LN (f:=λy=>vl m b self (n+1) y) N.out R;have au:=ao (x.out.next N.out R);have t:=ao (j.out.step aH ad D r.out y q.out.2.1 (q.out.2.2.1.mono λaR X=>by have:=j.out.2.1.lt.2;simp at X;omega) (q.out.2.2.2.2 ad (by rw[L.out];exact aO)));have z:=ao (j.out.2.1.below r.out);have M:Hid (ai w (iX e (w.heap.size+1+1) (k*4) (fX (m+(n+1)) y))):=by
     have g:=az.out;exact⟨g.os,g.tape,g.output,ax g.size (dm (bj _ _ _ _).symm),λaR X=>(aT (by omega) _ _ _ _).trans (g.block aR X)⟩
    have aU:Hid (∀o:Obj,ai w ((iX e (w.heap.size+1+1) (k*4) (fX (m+(n+1)) y)).alloc o)/\(((iX e (w.heap.size+1+1) (k*4) (fX (m+(n+1)) y)).alloc o).cell? ⟨w.heap.size,0,none⟩=some (.slice a 4 c)/\((iX e (w.heap.size+1+1) (k*4) (fX (m+(n+1)) y)).alloc o).cell? ⟨w.heap.size,1,none⟩=some (ab self))/\ng (w.heap.size+1) ((iX e (w.heap.size+1+1) (k*4) (fX (m+(n+1)) y)).alloc o)/\L6 (λy=>vl m b self (n+1) y) p (k+1)/\∃l,tC (m+(n+1)) (vh (λy=>vl m b self (n+1) y) p) len (w.heap.size+1+1) (k+1) l ((iX e (w.heap.size+1+1) (k*4) (fX (m+(n+1)) y)).alloc o)):=by
     intro o;have C:Below (iX e (w.heap.size+1+1) (k*4) (fX (m+(n+1)) y)).heap.size (iX e (w.heap.size+1+1) (k*4) (fX (m+(n+1)) y)) ((iX e (w.heap.size+1+1) (k*4) (fX (m+(n+1)) y)).alloc o):=(am _ _).alloc (aj _) _;have a5:(iX e (w.heap.size+1+1) (k*4) (fX (m+(n+1)) y)).heap.size=e.heap.size:=bj _ _ _ _;have a1:=z.out.lt.2;refine⟨M.out.trans (C.mono M.out.size),⟨?_,?_⟩,?_,au.out,l++ [y],t.out.grow C⟩
     ·exact(ap C _ _ (by omega)).trans ((bm (aT (by omega) _ _ _ _) _).trans Z)
     ·exact(ap C _ _ (by omega)).trans ((bm (aT (by omega) _ _ _ _) _).trans aa)
     ·refine ng.below ?_ C;exact O.out.block (aT (by omega) _ _ _ _) (dm a5.symm)
    obtain⟨an,aQ⟩:∃an,(l.map (λd=>(⟨m+(n+1),d⟩:An))++List.replicate (len-k) zA)[k]?=some an:=⟨_,aE (by simp[j.out.1];omega)⟩;obtain⟨bh,bi,bk,bl⟩:=z.out.cells k an aQ;have bo:=λa7=>z.out.free a7;have a1:w.heap.size+1+1<e.heap.size:=z.out.lt.2;clear q j x r i t au M z aQ O D aO R;go_wp2_with fail;go_roundw
    case rel=>exact⟨k+1,by omega,by go_num,aU.out _⟩
    case measure=>simp[intOf];omega
  ·obtain rfl:k=len:=by omega
   have K:Hid (o=some (cU (m+n) (vh (λy=>vl m b self n y) p))):=by
    show o=_;rw[av.out,JV x.out (by rw[W.out];exact aj _)];rfl
   have aW:=λa9 ba bb bc=>ao (GR j.out (by rw[JW];exact W.out) rfl i.out a2 (w.heap.size+1) (by omega) (by omega) a9 ba bb bc);obtain⟨⟨af,ag,ah,al⟩,⟨aX,aY,aZ,a0⟩,aP⟩:=G.out;clear x j i V aB;go_wp2_with fail;rw[K.out];exact ar (v:=.tuple #[.agg #[ab 4,ab 0,ae .empty,.slice (some ⟨w.heap.size+1+1,0,none⟩) k k],.bool true]) (by simp[results,Tryz.results183,go_sem,af,ag,ah,al];rfl) rfl (aW _ _ _ _).out
theorem Aw{P:Nat->Prop}:(N n:Nat)->n<=N->(x:Tm n)->bZ P n x->bZ P N (aN N n x)
 | _,0,_,_,k=>k.elim
 | 0,n+1,h,_,_=>by omega
 | N+1,n+1,h,x,k=>by
  rcases k with k|⟨b,o,e,d,k⟩
  ·exact ag (by simp[aN,k])
  ·refine ah ⟨b,o,e,d,λi y a=>?_⟩;simp only[aN,dh]at a;obtain⟨c,f,rfl⟩:=cd.1 a;exact Aw N n (by omega) c (k i c f)
theorem IT(N n:Nat)(x:Tm (n+1)):df (N+1) (aN (N+1) (n+1) x)=df (n+1) x:=by simp[df,aN]
theorem IS{N n:Nat}(d:n<=N){x y:Tm (n+1)}(a:aA ⟨n+1,x⟩)(b:aw (n+1) y (n+1) x=true):aw (N+1) (aN (N+1) (n+1) y) (N+1) (aN (N+1) (n+1) x)=true:=by
 have c:aA ⟨n+1,y⟩:=aJ.2 (by rw[ja _ _ _ _ b];exact aJ.1 a);exact bD _ _ _ _ _ _ (fk (N+1) (n+1) (by omega) y c) (bD _ _ _ _ _ _ b (dq _ _ _ _ (fk (N+1) (n+1) (by omega) x a)))
theorem GZ{N n:Nat}(b:n<=N){x y:Tm (n+1)}{w w':World}(f:aA ⟨n+1,x⟩)(c:ai w w')(d:In w'.heap.size w' (n+1) y)(e:bZ (λq=>w.heap.size<=q) (n+1) y)(g:aw (n+1) y (n+1) x=true)(r:Bool):jA (N+1) (if r then some (aN (N+1) (n+1) x)else none) w (.returned (.tuple #[.agg #[ab y.1.1,ab y.1.2.1,ae y.1.2.2,.slice y.2.1.1 y.2.2.length y.2.1.2],.bool r])) w':=by
 refine⟨aN (N+1) (n+1) y,r,by rw[IT];rfl,c,og _ _ (by omega) _ _ _ d,Aw _ _ (by omega) _ e,by cases r<;>rfl,λh a=>?_⟩;cases r with
 | false=>cases a
 | true=>
  obtain rfl:=au a;exact IS b f g
theorem vj{N:Nat}{o:Option (Tm (N+1))}{w w1 w2:World}{y:Tm (N+1)}{r:Bool}{q:Nat}(c:ai w w1)(k:w.heap.size<=q)(m:q<w1.heap.size)(e:ai w1 w2/\In w2.heap.size w2 (N+1) y/\bZ (λq=>w1.heap.size<=q) (N+1) y/\r=o.isSome/\∀d,o=some d->aw (N+1) y (N+1) d=true)(v0 v1 v2 v3:Value):jA (N+1) o w (.returned (.tuple #[.agg #[ab y.1.1,ab y.1.2.1,ae y.1.2.2,.slice y.2.1.1 y.2.2.length y.2.1.2],.bool r])) (cG w2 q 0 v0 v1 v2 v3):=by
 obtain⟨f,g,a,h,i⟩:=e;have l:=c.size;refine⟨y,r,rfl,cT (c.trans (f.mono l)) k _ _ _ _,?_,a.mono λb j=>by omega,h,i⟩;rw[bj];exact In.off (P:=λb=>w1.heap.size<=b) (λb j=>aT (by omega) _ _ _ _) a g
theorem vk{N n:Nat}(h:n<=N){x y:Tm (n+1)}{w w1 w2 g:World}{q:Nat}(p:aA ⟨n+1,x⟩)(e:ai w w1)(o:w.heap.size<=q)(s:q<w1.heap.size)(k:ai w1 w2/\In w2.heap.size w2 (n+1) y/\bZ (λq=>w1.heap.size<=q) (n+1) y/\aw (n+1) y (n+1) x=true)(a:ai w2 g)(r:Bool)(v0 v1 v2 v3:Value):jA (N+1) (if r then some (aN (N+1) (n+1) x)else none) w (.returned (.tuple #[.agg #[ab y.1.1,ab y.1.2.1,ae y.1.2.2,.slice y.2.1.1 y.2.2.length y.2.1.2],.bool r])) (cG g q 0 v0 v1 v2 v3):=by
 obtain⟨c,i,d,j⟩:=k;have f:=e.size;have l:=(e.trans (c.mono f)).trans (a.mono (ax f c.size));refine GZ h p (cT l o _ _ _ _) ?_ (d.mono λb m=>by omega) j r;rw[bj];exact In.off (P:=λb=>w1.heap.size<=b) (λb m=>aT (by omega) _ _ _ _) d ((i.below a).mono a.size)
theorem yR{w:World}{s0 s1:Value}{t1 t2:TypeId}:ai w ((w.alloc (.cells #[s0,s1] t1)).alloc (.cells #[ab 0,ab 0,ae .empty,.slice none 0 0] t2))/\ng (w.heap.size+1) ((w.alloc (.cells #[s0,s1] t1)).alloc (.cells #[ab 0,ab 0,ae .empty,.slice none 0 0] t2)):=by
 have a:=xD (w:=w) (s0:=s0) (s1:=s1) (t1:=t1) (t2:=t2) (w':=(w.alloc (.cells #[s0,s1] t1)).alloc (.cells #[ab 0,ab 0,ae .empty,.slice none 0 0] t2)) (gh _ _);exact⟨a.1,a.2.2⟩
theorem yS{w w1:World}{s0 s1:Value}{t1 t2:TypeId}(a:w1=(w.alloc (.cells #[s0,s1] t1)).alloc (.cells #[ab 0,ab 0,ae .empty,.slice none 0 0] t2)):ai w w1/\ng (w.heap.size+1) w1/\w1.cell? ⟨w.heap.size,0,none⟩=some s0/\w1.cell? ⟨w.heap.size,1,none⟩=some s1:=by
 subst a;have a:=xD (w:=w) (s0:=s0) (s1:=s1) (t1:=t1) (t2:=t2) (w':=(w.alloc (.cells #[s0,s1] t1)).alloc (.cells #[ab 0,ab 0,ae .empty,.slice none 0 0] t2)) (gh _ _);exact⟨a.1,a.2.2,a.2.1.1,a.2.1.2⟩
theorem LP(N:Nat)(o:Option (Tm (N+1)))(a:Option Addr)(c:Nat)(self:Int)(j:dk self)(pa:Option Addr)(len:Nat)(pc:Nat)(w:World)(d:Hid (∀w1,ai w w1->ak 181 #[.slice pa len pc,ae pf,ab 0] w1 λe w'=>e=.returned (.bool true)/\w'=w1))(i:Hid (o=some (bJ 3 self N))):ak 175 #[.agg #[.slice a 4 c,ab self],.slice pa len pc] w (jA (N+1) o w):=by
 go_enter Tryz.func175,Tryz.ntmps175;go_wp2_with fail;refine(d.out _ yR.1).mono ?_;rintro e w1 ⟨rfl,g⟩;obtain⟨f,b,x,y⟩:=yS g;have HB:=ao f;have h:=ao b;have t:w.heap.size<w1.heap.size:=by have:=b.2.2;omega
 clear g f b d;obtain⟨⟨k,l,m,n⟩,⟨p,q,r,s⟩,u⟩:=h.out;go_wp2_with fail;rw[i.out];exact ar (v:=.tuple #[.agg #[ab 3,ab self,ae .empty,.slice none 0 0],.bool true]) (by simp[results,Tryz.results175,go_sem,k,l,m,n];rfl) rfl (xj (cT HB.out (by omega) _ _ _ _) 3 self (by simp[dk]) j)
theorem Nl(N:Nat)(o:Option (Tm (N+1)))(a:Option Addr)(c:Nat)(self:Int)(b po:Nat)(j k:Int)(l:ByteArray)(xa:Option Addr)(m xc:Nat)(y0 y1:Int)(y2:ByteArray)(ya:Option Addr)(yl yc:Nat)(pc:Nat)(w:World)(p:Hid (∀w1,ai w w1->ak 181 #[.slice (some ⟨b,po,none⟩) 3 pc,ae pf,ab 0] w1 λe w'=>e=.returned (.bool false)/\w'=w1))(D:Hid (∀w1,ai w w1->ak 181 #[.slice (some ⟨b,po,none⟩) 3 pc,ae vm,ab 2] w1 λe w'=>e=.returned (.bool true)/\w'=w1))(g:b<w.heap.size)(G:w.cell? ⟨b,po+4,none⟩=some (ab j)/\w.cell? ⟨b,po+4+1,none⟩=some (ab k)/\w.cell? ⟨b,po+4+2,none⟩=some (ae l)/\w.cell? ⟨b,po+4+3,none⟩=some (.slice xa m xc))(H:w.cell? ⟨b,po+8,none⟩=some (ab y0)/\w.cell? ⟨b,po+8+1,none⟩=some (ab y1)/\w.cell? ⟨b,po+8+2,none⟩=some (ae y2)/\w.cell? ⟨b,po+8+3,none⟩=some (.slice ya yl yc))(E:Hid (∀w1,ai w w1->ak 182 #[.agg #[.slice a 4 c,ab self],.agg #[ab j,ab k,ae l,.slice xa m xc],.agg #[ab y0,ab y1,ae y2,.slice ya yl yc]] w1 (jA (N+1) o w1))):ak 175 #[.agg #[.slice a 4 c,ab self],.slice (some ⟨b,po,none⟩) 3 pc] w (jA (N+1) o w):=by
 go_enter Tryz.func175,Tryz.ntmps175;go_wp2_with fail;refine(p.out _ yR.1).mono ?_;rintro e w1 ⟨rfl,r⟩;obtain⟨q,i,ag,ah⟩:=yS r;have HB:=ao q;have n:=ao i;have ad:w.heap.size<w1.heap.size:=by have:=i.2.2;omega
 clear r q i p;have f:=ap HB.out;obtain⟨s,t,u,x⟩:=G;obtain⟨y,z,A,B⟩:=H;replace s:=(f _ _ g).trans s;replace t:=(f _ _ g).trans t;replace u:=(f _ _ g).trans u;replace x:=(f _ _ g).trans x;replace y:=(f _ _ g).trans y;replace z:=(f _ _ g).trans z;replace A:=(f _ _ g).trans A;replace B:=(f _ _ g).trans B;clear f;go_wp2_with fail;refine(D.out _ HB.out).mono ?_;rintro e P ⟨rfl,rfl⟩;have aa:b<P.heap.size:=aL g HB.out.size;have Y:¬(w.heap.size+1=b):=by omega
 have Z:¬(b=w.heap.size+1):=by omega
 have I:∀d:Tm (N+1),df (N+1) d=.agg #[ab d.1.1,ab d.1.2.1,ae d.1.2.2,.slice d.2.1.1 d.2.2.length d.2.1.2]:=λ_=>rfl;go_wp2_with fail
 go_region_held3 (λw'=>w'.cell? ⟨w.heap.size,0,none⟩=some (.slice a 4 c)/\w'.cell? ⟨w.heap.size,1,none⟩=some (ab self)/\w'.cell? ⟨b,po+4,none⟩=some (ab j)/\w'.cell? ⟨b,po+4+1,none⟩=some (ab k)/\w'.cell? ⟨b,po+4+2,none⟩=some (ae l)/\w'.cell? ⟨b,po+4+3,none⟩=some (.slice xa m xc)
     /\w'.cell? ⟨b,po+8,none⟩=some (ab y0)/\w'.cell? ⟨b,po+8+1,none⟩=some (ab y1)/\w'.cell? ⟨b,po+8+2,none⟩=some (ae y2)/\w'.cell? ⟨b,po+8+3,none⟩=some (.slice ya yl yc))
  (go_keep) ((go_at_call 182;refine(E.out _ HB.out.drew).mono ?_;rintro e aj ⟨d,J,rfl,h⟩;rw[I];have f:=ap (cD h.out.1);have C:=ao (n.out.below (cD h.out.1));obtain⟨⟨Q,R,S,T⟩,⟨U,V,W,X⟩,af⟩:=C.out))
 have F:=λK L M O=>ao (vj HB.out.drew (jk _ 1) n.out.2.2 h.out K L M O);clear h f;go_wp2_with fail;exact ar (v:=.tuple #[.agg #[ab d.1.1,ab d.1.2.1,ae d.1.2.2,.slice d.2.1.1 d.2.2.length d.2.1.2],.bool J]) (by simp[results,Tryz.results175,go_sem,Q,R,S,T]) rfl (F _ _ _ _).out
theorem Nm(N:Nat)(o:Option (Tm (N+1)))(a:Option Addr)(c:Nat)(self:Int)(b po:Nat)(n:Nat)(L:n<=N)(x:Tm (n+1))(cl:Bool)(pc:Nat)(w:World)(l:Hid (∀w1,ai w w1->ak 181 #[.slice (some ⟨b,po,none⟩) 2 pc,ae pf,ab 0] w1 λe w'=>e=.returned (.bool false)/\w'=w1))(C:Hid (∀w1,ai w w1->ak 181 #[.slice (some ⟨b,po,none⟩) 2 pc,ae vm,ab 2] w1 λe w'=>e=.returned (.bool false)/\w'=w1))(D:Hid (∀w1,ai w w1->ak 181 #[.slice (some ⟨b,po,none⟩) 2 pc,ae BC,ab 1] w1 λe w'=>e=.returned (.bool true)/\w'=w1))(f:b<w.heap.size)(M:dr w b (po+4) (n+1) x)(H:Hid (aA ⟨n+1,x⟩))(G:Hid (∀w1,ai w w1->ak 54 #[.agg #[ab x.1.1,ab x.1.2.1,ae x.1.2.2,.slice x.2.1.1 x.2.2.length x.2.1.2]] w1 λe w'=>∃y:Tm (n+1),e=.returned (df (n+1) y)/\Hid (ai w1 w'/\In w'.heap.size w' (n+1) y/\bZ (λq=>w1.heap.size<=q) (n+1) y/\aw (n+1) y (n+1) x=true)))(E:Hid (∀w1,ai w w1->ak 52 #[.agg #[ab x.1.1,ab x.1.2.1,ae x.1.2.2,.slice x.2.1.1 x.2.2.length x.2.1.2]] w1 λe w'=>e=.returned (.bool cl)/\ai w1 w'))(F:Hid (o=if cl then some (aN (N+1) (n+1) x)else none)):ak 175 #[.agg #[.slice a 4 c,ab self],.slice (some ⟨b,po,none⟩) 2 pc] w (jA (N+1) o w):=by
 go_enter Tryz.func175,Tryz.ntmps175;go_wp2_with fail;refine(l.out _ yR.1).mono ?_;rintro e w1 ⟨rfl,p⟩;obtain⟨m,i,am,an⟩:=yS p;have HB:=ao m;have k:=ao i;have aj:w.heap.size<w1.heap.size:=by have:=i.2.2;omega
 clear p m i l;have d:=ap HB.out;obtain⟨t,u,z,A⟩:=M;replace t:=(d _ _ f).trans t;replace u:=(d _ _ f).trans u;replace z:=(d _ _ f).trans z;replace A:=(d _ _ f).trans A;clear d;generalize x.2.2.length=S at*;go_wp2_with fail;refine(C.out _ HB.out).mono ?_;rintro e r ⟨rfl,rfl⟩;go_wp2_with fail;refine(D.out _ HB.out).mono ?_;rintro e r ⟨rfl,rfl⟩;have ag:b<r.heap.size:=aL f HB.out.size;have ad:¬(w.heap.size+1=b):=by omega
 have af:¬(b=w.heap.size+1):=by omega
 have J:∀y:Tm (n+1),df (n+1) y=.agg #[ab y.1.1,ab y.1.2.1,ae y.1.2.2,.slice y.2.1.1 y.2.2.length y.2.1.2]:=λ_=>rfl;go_wp2_with fail
 go_region_held3 (λw'=>w'.cell? ⟨b,po+4,none⟩=some (ab x.1.1)/\w'.cell? ⟨b,po+4+1,none⟩=some (ab x.1.2.1)/\w'.cell? ⟨b,po+4+2,none⟩=some (ae x.1.2.2)/\w'.cell? ⟨b,po+4+3,none⟩=some (.slice x.2.1.1 S x.2.1.2))
  (go_keep) ((first|(go_at_call 54;refine(G.out _ HB.out.drew).mono ?_;rintro e s ⟨y,rfl,g⟩;rw[J];have d:=ap (cD g.out.1);have j:Hid (ai w s):=(HB.out.drew).trans (g.out.1.mono HB.out.size))|(go_at_call 52;refine(E.out _ j.out).mono ?_;rintro e aq ⟨rfl,h⟩;have K:=ap h;have ah:b<s.heap.size:=aL f j.out.size;have B:=ao ((k.out.below (cD g.out.1)).below h);obtain⟨⟨T,U,V,W⟩,⟨X,Y,Z,aa⟩,al⟩:=B.out)))
 have I:=λO P Q R=>ao (vk L H.out HB.out.drew (jk _ 1) k.out.2.2 g.out h cl O P Q R);clear g d K h;go_wp2_with fail;rw[F.out];exact ar (v:=.tuple #[.agg #[ab y.1.1,ab y.1.2.1,ae y.1.2.2,.slice y.2.1.1 y.2.2.length y.2.1.2],.bool cl]) (by simp[results,Tryz.results175,go_sem,T,U,V,W]) rfl (I _ _ _ _).out
theorem LO(N:Nat)(o:Option (Tm (N+1)))(a:Option Addr)(c:Nat)(self:Int)(pa:Option Addr)(len:Nat)(pc:Nat)(w:World)(h:Hid (∀w1,ai w w1->ak 181 #[.slice pa len pc,ae pf,ab 0] w1 λe w'=>e=.returned (.bool false)/\w'=w1))(i:Hid (∀w1,ai w w1->ak 181 #[.slice pa len pc,ae vm,ab 2] w1 λe w'=>e=.returned (.bool false)/\w'=w1))(j:Hid (∀w1,ai w w1->ak 181 #[.slice pa len pc,ae BC,ab 1] w1 λe w'=>e=.returned (.bool false)/\w'=w1))(k:Hid (∀w1,ai w w1->ak 183 #[.agg #[.slice a 4 c,ab self],.slice pa len pc] w1 (jA (N+1) o w1))):ak 175 #[.agg #[.slice a 4 c,ab self],.slice pa len pc] w (jA (N+1) o w):=by
 go_enter Tryz.func175,Tryz.ntmps175;go_wp2_with fail;refine(h.out _ yR.1).mono ?_;rintro e w1 ⟨rfl,n⟩;obtain⟨m,f,J,K⟩:=yS n;have HB:=ao m;have g:=ao f;have H:w.heap.size<w1.heap.size:=by have:=f.2.2;omega
 clear n m f h;go_wp2_with fail;refine(i.out _ HB.out).mono ?_;rintro e y ⟨rfl,rfl⟩;go_wp2_with fail;refine(j.out _ HB.out).mono ?_;rintro e y ⟨rfl,rfl⟩;go_wp2_with fail;refine(k.out _ HB.out).mono ?_;rintro e L ⟨b,r,rfl,d⟩;have p:=ao (g.out.below d.out.1);have q:=λs t u x=>ao (vj HB.out (jk _ 1) g.out.2.2 d.out s t u x);obtain⟨⟨z,A,B,C⟩,⟨D,E,F,G⟩,I⟩:=p.out;have l:df (N+1) b=.agg #[ab b.1.1,ab b.1.2.1,ae b.1.2.2,.slice b.2.1.1 b.2.2.length b.2.1.2]:=rfl;rw[l];clear d k i j l;go_wp2_with fail;exact ar (v:=.tuple #[.agg #[ab b.1.1,ab b.1.2.1,ae b.1.2.2,.slice b.2.1.1 b.2.2.length b.2.1.2],.bool r]) (by simp[results,Tryz.results175,go_sem,z,A,B,C]) rfl (q _ _ _ _).out
end Go.Proofs.YtckamaoibonjcaaGreat
