/- What is proved here: plain facts and contracts that the claimed theorem stands on. No condition but those that each names. -/
import Derived.Test.YtnidfceinoiboaaGreatG11
import Derived.OrdersHeld
namespace Go.Proofs.YtnidfceinoiboaaGreat
open Go.RowKit
set_option maxRecDepth 100000
set_option maxHeartbeats 4000000
abbrev Ac(n:Nat):Type:=Int×(Tm n×Tm n)×(ByteArray×Int)
abbrev Cl(n:Nat):Type:=(Tm n×Tm n×Tm n)×(Option Addr×Nat)×List (Ac n)
abbrev Bh(n:Nat):Type:=ByteArray×(Option Addr×Nat)×List (Cl n)
def gq(n:Nat)(x:Tm n):List Value:=vj (iv n x)
def fy(n:Nat)(a:Ac n):List Value:=.int .i64 a.1::(gq n a.2.1.1++gq n a.2.1.2++ [.string a.2.2.1,.int .i64 a.2.2.2])
def ex(n:Nat)(c:Cl n):List Value:=gq n c.1.1++gq n c.1.2.1++(.slice c.2.1.1 c.2.2.length c.2.1.2::gq n c.1.2.2)
def nr(n:Nat)(b:Bh n):List Value:=[.string b.1,.slice b.2.1.1 b.2.2.length b.2.1.2]
def oF{c:Type}(B:Nat)(w:World)(k:Nat)(f:c->List Value)(I:c->Prop)(a:Option Addr)(l:List c):Prop:=
 l=[]\/∃b o,a=some ⟨b,o,none⟩/\b<B/\∀(e:Nat)(d:c),l[e]?=some d->(∀(g:Nat)(h:Value),(f d)[g]?=some h->w.cell? ⟨b,o+e*k+g,none⟩=some h)/\I d
def gQ(n:Nat)(B:Nat)(w:World)(a:Ac n):Prop:=dc a.1/\In B w n a.2.1.1/\In B w n a.2.1.2/\a.2.2.1.size<=maxLen/\dc a.2.2.2
def gj(n:Nat)(B:Nat)(w:World)(c:Cl n):Prop:=(In B w n c.1.1/\In B w n c.1.2.1/\In B w n c.1.2.2)/\(c.2.2.length<=c.2.1.2/\c.2.1.2<=maxLen)/\oF B w 11 (fy n) (gQ n B w) c.2.1.1 c.2.2
def og(n:Nat)(B:Nat)(w:World)(b:Bh n):Prop:=b.1.size<=maxLen/\(b.2.2.length<=b.2.1.2/\b.2.1.2<=maxLen)/\oF B w 13 (ex n) (gj n B w) b.2.1.1 b.2.2
def rJ{c:Type}(d:c->Prop)(P:Nat->Prop)(a:Option Addr)(l:List c):Prop:=l=[]\/∃b o,a=some ⟨b,o,none⟩/\P b/\∀y∈l,d y
def kY(n:Nat)(P:Nat->Prop)(a:Ac n):Prop:=ch P n a.2.1.1/\ch P n a.2.1.2
def jm(n:Nat)(P:Nat->Prop)(c:Cl n):Prop:=(ch P n c.1.1/\ch P n c.1.2.1/\ch P n c.1.2.2)/\rJ (kY n P) P c.2.1.1 c.2.2
def jl(n:Nat)(P:Nat->Prop)(b:Bh n):Prop:=rJ (jm n P) P b.2.1.1 b.2.2
def jn{f:Type}(I:Nat->World->f->Prop)(g:(Nat->Prop)->f->Prop):Prop:=
 (∀(e i:Nat->Prop)(a:f),(∀b,e b->i b)->g e a->g i a)/\(∀(e:Nat->Prop)(c:Nat)(d:World)(a:f),g e a->I c d a->g (λb=>e b/\b<c) a)/\
 (∀(e:Nat->Prop)(c:Nat)(d j:World)(a:f),(∀b,e b->j.heap[b]?=d.heap[b]?)->g e a->I c d a->I c j a)/\(∀(c h:Nat)(d:World)(a:f),c<=h->I c d a->I h d a)/\
 (∀(c:Nat)(d:World)(a:f),I c d a->g (λb=>b<c) a)
theorem nA{B:Nat}{w:World}:{n:Nat}->{x:Tm n}->In B w n x->ch (λb=>b<B) n x
 | 0,_,k=>k
 | _+1,_,k=>by
  obtain⟨_,a⟩:=k;rcases a with a|⟨b,o,e,c,a⟩
  ·exact ae a
  ·exact af ⟨b,o,e,c,λi y d=>nA (a i y d).2⟩
theorem dM(n:Nat):jn (λB w x=>In B w n x) (λP x=>ch P n x):=
 ⟨λ_ _ _ a k=>k.mono a,λ_ _ _ _ a k=>In.offB a k,λ_ _ _ _ _ a b k=>In.off a b k,λ_ _ _ _ a k=>k.mono a,λ_ _ _ k=>nA k⟩
theorem fh(n:Nat):jn (gQ n) (kY n):=by
 obtain⟨i,j,l,m,o⟩:=dM n
 exact⟨λd g e b k=>⟨i d g _ b k.1,i d g _ b k.2⟩,λd a c e b k=>⟨j d a c _ b.1 k.2.1,j d a c _ b.2 k.2.2.1⟩,
  λd a c p e b h k=>⟨k.1,l d a c p _ b h.1 k.2.1,l d a c p _ b h.2 k.2.2.1,k.2.2.2⟩,λa f c e b k=>⟨k.1,m a f c _ b k.2.1,m a f c _ b k.2.2.1,k.2.2.2⟩,
  λa c e k=>⟨o a c _ k.2.1,o a c _ k.2.2.1⟩⟩
theorem bZ{r:Type}{I:Nat->World->r->Prop}{s:(Nat->Prop)->r->Prop}(d:jn I s)(k:Nat)(f:r->List Value)(a:Option Addr):jn (λB w l=>oF B w k f (I B w) a l) (λP l=>rJ (s P) P a l):=by
 obtain⟨A,C,D,E,F⟩:=d;refine⟨λP u n d k=>?_,λP B w n d k=>?_,λP B w H n d m k=>?_,λB t w n d k=>?_,λB w n k=>?_⟩
 ·rcases k with k|⟨b,o,g,i,k⟩
  ·exact ae k
  ·exact af ⟨b,o,g,d b i,λc e=>A P u c d (k c e)⟩
 ·rcases k with k|⟨b,o,g,i,k⟩
  ·exact ae k
  ·rcases d with d|⟨v,z,j,p,d⟩
   ·exact ae d
   ·rw[g]at j;simp at j;obtain⟨rfl,rfl⟩:=j;refine af ⟨b,o,g,⟨p,i⟩,λc e=>?_⟩;obtain⟨h,q⟩:=cB e;exact C P B w c (d c e) (k h c q).2
 ·rcases k with k|⟨b,o,g,i,k⟩
  ·exact ae k
  ·rcases m with m|⟨v,z,j,p,m⟩
   ·exact ae m
   ·rw[g]at j;simp at j;obtain⟨rfl,rfl⟩:=j;exact af ⟨b,o,g,i,λh c e=>⟨λy G x=>(bi (d b p) _).trans ((k h c e).1 y G x),D P B w H c d (m c (ay e)) (k h c e).2⟩⟩
 ·rcases k with k|⟨b,o,g,i,k⟩
  ·exact ae k
  ·exact af ⟨b,o,g,by omega,λh c e=>⟨(k h c e).1,E B t w c d (k h c e).2⟩⟩
 ·rcases k with k|⟨b,o,g,i,k⟩
  ·exact ae k
  ·refine af ⟨b,o,g,i,λc e=>?_⟩;obtain⟨h,q⟩:=cB e;exact F B w c (k h c q).2
theorem dW(n:Nat):jn (gj n) (jm n):=by
 obtain⟨l,m,o,p,q⟩:=dM n;have e:=λr=>bZ (fh n) 11 (fy n) r
 exact⟨λd g j b k=>⟨⟨l d g _ b k.1.1,l d g _ b k.1.2.1,l d g _ b k.1.2.2⟩,(e _).1 d g _ b k.2⟩,
  λd a c j b k=>⟨⟨m d a c _ b.1.1 k.1.1,m d a c _ b.1.2.1 k.1.2.1,m d a c _ b.1.2.2 k.1.2.2⟩,(e _).2.1 d a c _ b.2 k.2.2⟩,
  λd a c i j b h k=>⟨⟨o d a c i _ b h.1.1 k.1.1,o d a c i _ b h.1.2.1 k.1.2.1,o d a c i _ b h.1.2.2 k.1.2.2⟩,k.2.1,(e _).2.2.1 d a c i _ b h.2 k.2.2⟩,
  λa f c j b k=>⟨⟨p a f c _ b k.1.1,p a f c _ b k.1.2.1,p a f c _ b k.1.2.2⟩,k.2.1,(e _).2.2.2.1 a f c _ b k.2.2⟩,
  λa c j k=>⟨⟨q a c _ k.1.1,q a c _ k.1.2.1,q a c _ k.1.2.2⟩,(e _).2.2.2.2 a c _ k.2.2⟩⟩
theorem dH(n:Nat):jn (og n) (jl n):=by
 have d:=λi=>bZ (dW n) 13 (ex n) i
 exact⟨λe h f b k=>(d _).1 e h _ b k,λe a c f b k=>(d _).2.1 e a c _ b k.2.2,λe a c l f b j k=>⟨k.1,k.2.1,(d _).2.2.1 e a c l _ b j k.2.2⟩,
  λa g c f b k=>⟨k.1,k.2.1,(d _).2.2.2.1 a g c _ b k.2.2⟩,λa c f k=>(d _).2.2.2.2 a c _ k.2.2⟩
def fx(n:Nat)(B:Nat)(w:World)(a:Option Addr)(l:List (Bh n)):Prop:=oF B w 2 (nr n) (og n B w) a l
theorem jn.below{a:Type}{I:Nat->World->a->Prop}{d:(Nat->Prop)->a->Prop}(c:jn I d){B:Nat}{w w':World}(e:Below B w w'){x:a}(k:I B w x):I B w' x:=
 c.2.2.1 (λb=>b<B) B w w' x (λb f=>e.block b f) (c.2.2.2.2 B w x k) k
theorem jn.mono{a:Type}{I:Nat->World->a->Prop}{b:(Nat->Prop)->a->Prop}(c:jn I b){B C:Nat}(d:B<=C){w:World}{x:a}(k:I B w x):I C w x:=c.2.2.2.1 B C w x d k
theorem fx.below{n B:Nat}{w w':World}{a:Option Addr}{l:List (Bh n)}(b:Below B w w')(k:fx n B w a l):fx n B w' a l:=(bZ (dH n) 2 (nr n) a).below b k
theorem fx.mono{n B C:Nat}(b:B<=C){w:World}{a:Option Addr}{l:List (Bh n)}(k:fx n B w a l):fx n C w a l:=(bZ (dH n) 2 (nr n) a).mono b k
def eN{a:Type}(I:Nat->World->a->Prop)(d:(Nat->Prop)->a->Prop)(f:a->List Value)(k:Nat)(T:TypeId)(B base:Nat)(xs:List a)(v:Value)(w0 wr:World):Prop:=
 Below base w0 wr/\wr.ownsRow base T k v xs.length (xs.flatMap f)/\∀c∈xs,I wr.heap.size wr c/\d (λb=>(b<B\/base<=b)/\v.ownBlock≠some b) c
theorem eN.nil{a:Type}{I:Nat->World->a->Prop}{b:(Nat->Prop)->a->Prop}{f:a->List Value}{k:Nat}{T:TypeId}{B base:Nat}(w:World):eN I b f k T B base [] (.slice none 0 0) w w:=
 ⟨ah _ _,eg _ _ _ _,λd c=>by cases c⟩
theorem eN.later{b:Type}{I:Nat->World->b->Prop}{c:(Nat->Prop)->b->Prop}(d:jn I c){f:b->List Value}{k:Nat}{T:TypeId}{B base:Nat}{xs:List b}{v:Value}{w0 wr w1:World}(i:eN I c f k T B base xs v w0 wr)(j:base<=wr.heap.size)(a:Below wr.heap.size wr w1):eN I c f k T B base xs v w0 w1:=by
 obtain⟨l,m,g⟩:=i;exact⟨l.trans (a.mono j),dF m a,λh e=>⟨d.mono a.size (d.below a (g h e).1),(g h e).2⟩⟩
theorem eN.step{q:Type}{I:Nat->World->q->Prop}{r:(Nat->Prop)->q->Prop}(e:jn I r){f:q->List Value}{k:Nat}{T:TypeId}{B base:Nat}{xs:List q}{v:Value}{w0 wr w1 w2:World}(C:eN I r f k T B base xs v w0 wr)(L:B<=base)(x:base<=wr.heap.size)(j:Below wr.heap.size wr w1)(h:q)(u:I w1.heap.size w1 h)(E:r (λb=>b<B\/wr.heap.size<=b) h){g c:Nat}(G:w2.ownsRow base T k (.slice (some ⟨g,0,none⟩) (xs.length+1) c) (xs.length+1) (xs.flatMap f++f h))(m:w1.grownBy w2 v.ownBlock)(w:v.ownBlock=some g\/g=w1.heap.size):eN I r f k T B base (xs++ [h]) (.slice (some ⟨g,0,none⟩) (xs.length+1) c) w0 w2:=by
 obtain⟨o,J,K⟩:=C;have t:∀b,v.ownBlock=some b->base<=b/\b<wr.heap.size:=λb d=>J.lt b d;have s:∀b,b<w1.heap.size->v.ownBlock≠some b->w2.heap[b]?=w1.heap[b]? :=λb x F=>m.block b x (λd=>F d.symm);have D:=j.size;have y:=m.size;refine⟨⟨(m.os.trans j.os).trans o.os,(m.tape.trans j.tape).trans o.tape,(m.output.trans j.output).trans o.output,by have:=o.size;omega,λb a=>?_⟩,?_,?_⟩
 ·exact(s b (by omega) (λd=>by have:=(t b d).1;omega)).trans ((j.block b (by omega)).trans (o.block b a))
 ·have A:(xs++ [h]).length=xs.length+1:=by simp
  have i:(xs++ [h]).flatMap f=xs.flatMap f++f h:=by simp
  rw[A,i];exact G
 ·intro p l;rcases di.1 l with l|l
  ·obtain⟨z,H⟩:=K p l;have n:=e.2.1 _ _ _ _ H z;refine⟨e.mono y (e.2.2.1 _ _ w1 w2 p (λb a=>s b ?_ a.1.2) n (e.mono D (e.below j z))),e.1 _ _ p (λb a=>⟨a.1.1,?_⟩) n⟩
   ·have:=a.2;omega
   ·simp only[Value.ownBlock];intro d;injection d with d;rcases w with i|i
    ·exact a.1.2 (by rw[i,d])
    ·have:=a.2;omega
  ·simp only[dj]at l;subst l;have n:=e.2.1 _ _ _ _ E u;refine⟨e.mono y (e.2.2.1 _ _ w1 w2 p (λb a=>s b a.2 (λd=>?_)) n u),e.1 _ _ p (λb a=>⟨?_,?_⟩) n⟩
   ·have:=t b d;have:=a.1;omega
   ·have:=a.1;omega
   ·simp only[Value.ownBlock];intro d;injection d with d;rcases w with i|i
    ·have:=t g i;have:=a.1;omega
    ·have:=a.2;omega
theorem eN.lit{d:Type}{I:Nat->World->d->Prop}{e:(Nat->Prop)->d->Prop}(a:jn I e){f:d->List Value}{k:Nat}{T:TypeId}{B base:Nat}(xs:List d){w0 w1:World}{cs:Array Value}(h:cs.toList=xs.flatMap f)(q:∀x,(f x).length=k)(o:xs.length<=maxLen)(l:base<=w1.heap.size)(p:Below base w0 w1)(c:∀y∈xs,I w1.heap.size w1 y/\e (λb=>b<B\/base<=b) y):eN I e f k T B base xs (.slice (some ⟨w1.heap.size,0,none⟩) xs.length xs.length) w0 (w1.alloc (.cells cs T)):=by
 have g:Below w1.heap.size w1 (w1.alloc (.cells cs T)):=(ah _ _).alloc (ag _) _;have n:(xs.flatMap f).length=xs.length*k:=by
  clear h c o
  induction xs with
  | nil=>simp
  | cons x xs ih=>rw[bj,aX,ih,q,aW,ip];omega
 have r:cs.size=xs.length*k:=by rw[<-n,<-h];simp
 refine⟨p.trans (g.mono l),⟨by rw[n],af ⟨w1.heap.size,xs.length,cs,rfl,l,ax w1 _,ag _,o,by omega,?_⟩⟩,λy i=>⟨a.mono g.size (a.below g (c y i).1),?_⟩⟩
 ·rw[h,bk (by omega)]
 ·refine a.1 _ _ y (λb m=>⟨m.1,?_⟩) (a.2.1 _ _ _ _ (c y i).2 (c y i).1);simp only[Value.ownBlock];intro j;injection j with j;have:=m.2;omega
theorem eN.lay{m:Type}{I:Nat->World->m->Prop}{p:(Nat->Prop)->m->Prop}(w:jn I p){f:m->List Value}{k:Nat}{T:TypeId}{B base:Nat}{xs:List m}{v:Value}{w0 wr:World}(t:∀x,(f x).length=k)(h:eN I p f k T B base xs v w0 wr):∃a c,v=.slice a xs.length c/\(xs.length<=c/\c<=maxLen)/\oF wr.heap.size wr k f (I wr.heap.size wr) a xs/\rJ (p (λb=>b<B\/base<=b)) (λb=>b<B\/base<=b) a xs:=by
 obtain⟨M,G,u⟩:=h;rcases G.2 with⟨q,J⟩|⟨r,cap,H,q,D,s,A,E,L,C⟩
 ·have F:xs=[]:=bK (by omega);subst F;exact⟨none,0,q,⟨ag _,aD _⟩,ae rfl,ae rfl⟩
 ·refine⟨some ⟨r,0,none⟩,cap,q,⟨A,E⟩,af ⟨r,0,rfl,(aE.1 s).1,λd e o=>⟨λg j n=>?_,(u e (ay o)).1⟩⟩,af ⟨r,0,rfl,af D,λe o=>w.1 _ _ e (λb z=>z.1) (u e o).2⟩⟩;have y:∀(l:List m)(d g:Nat)(e:m)(j:Value),l[d]?=some e->(f e)[g]?=some j->(l.flatMap f)[d*k+g]?=some j:=by
   intro l
   induction l with
   | nil=>intro d g e j h;simp at h
   | cons x l ih=>
    intro d g e j h n;rw[bj];cases d with
    | zero=>
     simp at h;subst h;rw[cY (by have:=(aK.1 n).1;omega)];simpa using n
    | succ d=>
     rw[dN (by rw[t,ip];omega),t,ip,show d*k+k+g-k=d*k+g by omega];exact ih d g e j (by simpa using h) n
  have i:=y xs d g e j o n;have K:=(aK.1 i).1;rw[<-C]at i;rw[jP]at i;split at i
  ·rw[cU];simp only[World.cell?,s];rw[jL]at i;simpa using i
  ·cases i
def EW(i:Option (List An))(f:List An->Option (List An))(w:World)(e:Ending)(w':World):Prop:=
 ∃h len c d,e=.returned (.tuple #[.slice h len c,.bool d])/\Hid (Below w.heap.size w w'/\(i=none->d=false)/\∀b,i=some b->∃g:List (Tm (lQ b)),av (λk m=>aw (lQ b) k (lQ b) m) g (Ag b)=true/\(f (mE (lQ b) g)=none->d=false)/\
  ∀a,f (mE (lQ b) g)=some a->d=true/\len=4/\a.length=4/\∃j l,w.heap.size<=j.heap.size/\fV (lQ a) (Ag a) j w' h c l)
theorem Bp(g h k m v x s0 s1 K t1:Int)(i n y r t2:ByteArray)(pa o z sa L t:Option Addr)(pl pc q p B A sl sc N M cl u:Nat)(S:Option (List An))(f:List An->Option (List An))(w:World)(Y:Hid (∀E W,Below w.heap.size w E->fV 1 (List.replicate 4 dG) E W (some ⟨E.heap.size,0,none⟩) 4 (List.replicate 4 dG)->Calls Tryz.prog 117 #[.agg #[.int .i64 g,.int .i64 h,.string i,.slice pa pl pc],.agg #[.int .i64 s0,.int .i64 s1,.string r,.slice sa sl sc],.slice (some ⟨E.heap.size,0,none⟩) 4 4] W (vP 0 S W)))(ay:Hid (∀(b:List An)(l:List (Tm (lQ b)))(a:Option Addr)(c:Nat)(E W:World),Below w.heap.size w W->S=some b->b.length=4->fV (lQ b) (Ag b) E W a c l->Calls Tryz.prog 117 #[.agg #[.int .i64 k,.int .i64 m,.string n,.slice o q p],.agg #[.int .i64 K,.int .i64 t1,.string t2,.slice L N M],.slice a 4 c] W (vP 0 (f (mE (lQ b) l)) W))):Calls Tryz.prog 87 #[.agg #[.int .i64 g,.int .i64 h,.string i,.slice pa pl pc,.int .i64 k,.int .i64 m,.string n,.slice o q p,.slice t cl u,.int .i64 v,.int .i64 x,.string y,.slice z B A],.agg #[.int .i64 s0,.int .i64 s1,.string r,.slice sa sl sc],.agg #[.int .i64 K,.int .i64 t1,.string t2,.slice L N M]] w (EW S f w):=by
 go_enter Tryz.func87,Tryz.ntmps87;go_wp2_with fail;have Z:Hid (∃j d e F,(j=((w.alloc (.cells #[.int .i64 g,.int .i64 h,.string i,.slice pa pl pc,.int .i64 k,.int .i64 m,.string n,.slice o q p,.slice t cl u,.int .i64 v,.int .i64 x,.string y,.slice z B A] 86)).alloc (.cells #[.int .i64 s0,.int .i64 s1,.string r,.slice sa sl sc] 30)).alloc (.cells #[.int .i64 K,.int .i64 t1,.string t2,.slice L N M] 30)/\d=w.heap.size/\e=w.heap.size+1/\F=w.heap.size+2)/\Below w.heap.size w j/\∀W,Below j.heap.size j W->(W.cell? ⟨d,0,none⟩=some (.int .i64 g)/\W.cell? ⟨d,1,none⟩=some (.int .i64 h)/\W.cell? ⟨d,2,none⟩=some (.string i)/\W.cell? ⟨d,3,none⟩=some (.slice pa pl pc))/\(W.cell? ⟨d,4,none⟩=some (.int .i64 k)/\W.cell? ⟨d,5,none⟩=some (.int .i64 m)/\W.cell? ⟨d,6,none⟩=some (.string n)/\W.cell? ⟨d,7,none⟩=some (.slice o q p))/\(W.cell? ⟨e,0,none⟩=some (.int .i64 s0)/\W.cell? ⟨e,1,none⟩=some (.int .i64 s1)/\W.cell? ⟨e,2,none⟩=some (.string r)/\W.cell? ⟨e,3,none⟩=some (.slice sa sl sc))/\(W.cell? ⟨F,0,none⟩=some (.int .i64 K)/\W.cell? ⟨F,1,none⟩=some (.int .i64 t1)/\W.cell? ⟨F,2,none⟩=some (.string t2)/\W.cell? ⟨F,3,none⟩=some (.slice L N M))):=by
  have aN:(w.alloc (.cells #[.int .i64 g,.int .i64 h,.string i,.slice pa pl pc,.int .i64 k,.int .i64 m,.string n,.slice o q p,.slice t cl u,.int .i64 v,.int .i64 x,.string y,.slice z B A] 86)).heap.size=w.heap.size+1:=by simp
  have aO:((w.alloc (.cells #[.int .i64 g,.int .i64 h,.string i,.slice pa pl pc,.int .i64 k,.int .i64 m,.string n,.slice o q p,.slice t cl u,.int .i64 v,.int .i64 x,.string y,.slice z B A] 86)).alloc (.cells #[.int .i64 s0,.int .i64 s1,.string r,.slice sa sl sc] 30)).heap.size=w.heap.size+2:=by simp
  refine⟨_,_,_,_,⟨rfl,rfl,rfl,rfl⟩,(((ah _ _).alloc (ag _) _).alloc (by simp) _).alloc (by simp;omega) _,λW G=>?_⟩;have s:=(G.block w.heap.size (by simp;omega)).trans ((((ah _ _).alloc (ag _) _).block w.heap.size (by simp;omega)).trans ((((ah _ _).alloc (ag _) _).block w.heap.size (by simp)).trans (ax w (.cells #[.int .i64 g,.int .i64 h,.string i,.slice pa pl pc,.int .i64 k,.int .i64 m,.string n,.slice o q p,.slice t cl u,.int .i64 v,.int .i64 x,.string y,.slice z B A] 86))));have am:=ax (w.alloc (.cells #[.int .i64 g,.int .i64 h,.string i,.slice pa pl pc,.int .i64 k,.int .i64 m,.string n,.slice o q p,.slice t cl u,.int .i64 v,.int .i64 x,.string y,.slice z B A] 86)) (.cells #[.int .i64 s0,.int .i64 s1,.string r,.slice sa sl sc] 30);rw[aN]at am;have Q:=(G.block (w.heap.size+1) (by simp)).trans ((((ah _ _).alloc (ag _) _).block (w.heap.size+1) (by simp)).trans am);have an:=ax ((w.alloc (.cells #[.int .i64 g,.int .i64 h,.string i,.slice pa pl pc,.int .i64 k,.int .i64 m,.string n,.slice o q p,.slice t cl u,.int .i64 v,.int .i64 x,.string y,.slice z B A] 86)).alloc (.cells #[.int .i64 s0,.int .i64 s1,.string r,.slice sa sl sc] 30)) (.cells #[.int .i64 K,.int .i64 t1,.string t2,.slice L N M] 30);rw[aO]at an;have R:=(G.block (w.heap.size+2) (by simp)).trans an;exact⟨⟨ab s 0,ab s 1,ab s 2,ab s 3⟩,⟨ab s 4,ab s 5,ab s 6,ab s 7⟩,⟨ab Q 0,ab Q 1,ab Q 2,ab Q 3⟩,ab R 0,ab R 1,ab R 2,ab R 3⟩
 obtain⟨j,d,e,F,⟨ak,ae,af,aj⟩,C,D⟩:=Z.out;rw[<-ak,<-aj,<-af,<-ae];replace C:=ai C;replace D:=ai D;clear ak ae af aj Z;obtain⟨⟨ap,aq,ar,av⟩,_,⟨y0,y1,y2,aw⟩,_⟩:=D.out j (ah _ _);have I:Hid (Below j.heap.size j j.drew):=(ah _ _).drew;have P:Hid (∀W,Below j.heap.size j W->(W.cell? ⟨d,0,none⟩=some (.int .i64 g)/\W.cell? ⟨d,1,none⟩=some (.int .i64 h)/\W.cell? ⟨d,2,none⟩=some (.string i)/\W.cell? ⟨d,3,none⟩=some (.slice pa pl pc))/\(W.cell? ⟨e,0,none⟩=some (.int .i64 s0)/\W.cell? ⟨e,1,none⟩=some (.int .i64 s1)/\W.cell? ⟨e,2,none⟩=some (.string r)/\W.cell? ⟨e,3,none⟩=some (.slice sa sl sc))):=λW G=>⟨(D.out W G).1,(D.out W G).2.2.1⟩
 go_region_held3 (λW=>(W.cell? ⟨d,0,none⟩=some (.int .i64 g)/\W.cell? ⟨d,1,none⟩=some (.int .i64 h)/\W.cell? ⟨d,2,none⟩=some (.string i)/\W.cell? ⟨d,3,none⟩=some (.slice pa pl pc))/\(W.cell? ⟨e,0,none⟩=some (.int .i64 s0)/\W.cell? ⟨e,1,none⟩=some (.int .i64 s1)/\W.cell? ⟨e,2,none⟩=some (.string r)/\W.cell? ⟨e,3,none⟩=some (.slice sa sl sc)))
  (first|(go_keep;done)|exact P.out _ I.out|exact P.out _ T.out|exact P.out _ O.out) ((first
   | (go_at_call 118;refine(ze _).mono ?_;rintro aa a2 ⟨rfl,V⟩;have O:=ai (I.out.trans (V.out.1.mono I.out.size)))
   | (go_at_call 117;refine(Y.out _ _ (C.out.trans (I.out.mono C.out.size)) V.out).mono ?_;rintro aa ao ⟨aB,aU,aE,aX,rfl,J⟩;have T:=ai (O.out.trans (J.out.1.mono O.out.size)))))
 have H:=ai (C.out.trans (T.out.mono C.out.size));clear ap aq ar av y0 y1 y2 aw P V O I Y;cases S with
 | none=>
  obtain⟨rfl,rfl⟩:aU=0/\aX=false:=J.out.2.1 (by simp);clear J;go_wp2_with fail
  go_ret2
  exact⟨none,0,0,false,rfl,H.out,λ_=>rfl,λb aH=>by cases aH⟩
 | some b=>
  obtain⟨aM,aK,ad,aZ,al,aP,X⟩:=J.out.2.2 b trivial rfl;subst aM aK;have aA:=ai (ay.out b al aB aE aZ ao H.out rfl ad X);have az:=ai X.2.2.2.2.1;obtain⟨_,⟨ap,aq,ar,av⟩,_,y0,y1,y2,aw⟩:=D.out ao T.out;clear X J ad aP;go_wp2_with fail;refine aA.out.mono ?_;rintro aa a3 ⟨aC,aV,aF,aY,rfl,U⟩;go_wp2_with fail
  go_ret2
  refine⟨aC,aV,aF,aY,rfl,H.out.trans (U.out.1.mono H.out.size),(λaG=>by cases aG),λa1 aI=>?_⟩;cases aI;refine⟨al,az.out,λaL=>(U.out.2.1 (by simp[aL])).2,λaD aJ=>?_⟩;obtain⟨aQ,aR,aS,a0,aW,aT,kc⟩:=U.out.2.2 aD trivial aJ;exact⟨aQ,aR,aS,a0,aW,au H.out.size aT,kc⟩
theorem Iz{n:Nat}{p l:List (Tm n)}{w w':World}{a:Option Addr}{c:Nat}(i:fV n p w w' a c l):eY w'.heap.size w' n l a:=by
 obtain⟨_,_,_,_,_,k⟩:=i;rcases k with d|⟨b,o,d,_,j,e⟩
 ·exact ae d
 ·exact af ⟨b,o,d,j,λg h f=>⟨(e g h f).1,(e g h f).2.1⟩⟩
theorem pQ{y:An}(a:ES y):aB y:=aJ.2 (bv.1 a.1).1
theorem Ax:∀y∈mE 1 (List.replicate 4 dG),ES y:=by
 intro y a;simp only[mE,cC,List.mem_replicate]at a;obtain⟨b,⟨_,rfl⟩,rfl⟩:=a;exact⟨vZ,ae rfl⟩
theorem eU{n:Nat}{x:Tm n}(a:bA n x=0):(aq n x).length<=2097152:=au (mI a) (by omega)
theorem D7(n m k:Nat)(c:Cl (n+1))(s:Tm (m+1))(t:Tm (k+1))(B:Nat)(w:World)(C:gj (n+1) B w c)(K:In B w (m+1) s)(L:In B w (k+1) t)(a:B<=w.heap.size)(u:bA (n+1) c.1.1=0)(v:bA (n+1) c.1.2.1=0)(p:bA (m+1) s=0)(x:jt (m+1) s=true)(y:bA (k+1) t=0)(H:jt (k+1) t=true):Calls Tryz.prog 87 #[.agg (ex (n+1) c).toArray,dg (m+1) s,dg (k+1) t] w (EW (fY (n+1) c.1.1 (m+1) s (mE 1 (List.replicate 4 dG))) (fY (n+1) c.1.2.1 (k+1) t) w):=by
 refine Bp c.1.1.1.1 c.1.1.1.2.1 c.1.2.1.1.1 c.1.2.1.1.2.1 c.1.2.2.1.1 c.1.2.2.1.2.1 s.1.1 s.1.2.1 t.1.1 t.1.2.1 c.1.1.1.2.2 c.1.2.1.1.2.2 c.1.2.2.1.2.2 s.1.2.2 t.1.2.2 c.1.1.2.1.1 c.1.2.1.2.1.1 c.1.2.2.2.1.1 s.2.1.1 t.2.1.1 c.2.1.1
  c.1.1.2.2.length c.1.1.2.1.2 c.1.2.1.2.2.length c.1.2.1.2.1.2 c.1.2.2.2.2.length c.1.2.2.2.1.2 s.2.2.length s.2.1.2 t.2.2.length t.2.1.2 c.2.2.length c.2.1.2 _ _ w ?_ ?_
 ·intro r d z i;have h:=z.trans (i.1.mono z.size)
  have e:=vf (n+1) (m+1) 1 c.1.1 s (List.replicate 4 dG) (some ⟨r.heap.size,0,none⟩) 4 d.heap.size d ((C.1.1.below (h.mono a)).mono (au a h.size)) ((K.below (h.mono a)).mono (au a h.size)) (Iz i) (ag _) (eU u) (eU p) (λj f=>by
   rw[(List.mem_replicate.1 f).2]
   exact eU vZ) (by simp)
  have o:rM (bA (n+1) c.1.1) (bA (m+1) s) (jt (m+1) s) (fG 1 (List.replicate 4 dG))=0:=by
   rw[u,p,x,Fh];rfl
  rw[o]at e;exact e
 ·intro b l E F r d g J G i;have q:=mO ES tL (n+1) c.1.1 (m+1) s ⟨p,af (by rw[eT];exact x)⟩ (mE 1 (List.replicate 4 dG)) b ⟨by simp[mE],Ax⟩ J;obtain⟨I,D,M,N⟩:=Cp i (λj f=>pQ (q.2 j f)) G;have A:=vH q.2 D q.1 M;have e:=vf (n+1) (k+1) (lQ b) c.1.2.1 t l E F d.heap.size d ((C.1.2.1.below (g.mono a)).mono (au a g.size)) ((L.below (g.mono a)).mono (au a g.size)) I (ag _) (eU v) (eU y) (λj f=>eU ((gu A).2 j f).1) (by omega);have o:rM (bA (n+1) c.1.2.1) (bA (k+1) t) (jt (k+1) t) (fG (lQ b) l)=0:=by
   rw[v,y,H,A];rfl
  rw[o,D]at e;exact e
def uL(N:Nat)(o:Option (Tm (N+1)))(w:World)(e:Ending)(w':World):Prop:=
 ∃a:Tm (N+1),e=.returned (.tuple #[.agg #[.int .i64 a.1.1,.int .i64 a.1.2.1,.string a.1.2.2,.slice a.2.1.1 a.2.2.length a.2.1.2],.bool o.isSome])/\Hid (Below w.heap.size w w'/\In w'.heap.size w' (N+1) a/\ch (λb=>w.heap.size<=b) (N+1) a/\aw (N+1) a (N+1) (o.getD (uo N))=true)
theorem GA{N:Nat}{E:Int}{o:Option (Tm N)}:(CO E (mF E o)==0)=(mF E o).isSome:=by
 unfold CO;by_cases a:E=0
 ·rw[if_pos a];cases (mF E o).isSome<;>simp
 ·rw[if_neg a];have:mF E o=none:=by unfold mF;rw[if_neg a]
  rw[this];simp[a]
theorem Ah{N:Nat}(y:Tm (N+1)):dg (N+1) y=.agg #[.int .i64 y.1.1,.int .i64 y.1.2.1,.string y.1.2.2,.slice y.2.1.1 y.2.2.length y.2.1.2]:=rfl
theorem Hu{w w':World}{t:TypeId}{v0 v1 v2 v3:Value}(b:Below (w.alloc (.cells #[v0,v1,v2,v3] t)).drew.heap.size (w.alloc (.cells #[v0,v1,v2,v3] t)).drew w'):w'.cell? ⟨w.heap.size,0,none⟩=some v0/\w'.cell? ⟨w.heap.size,1,none⟩=some v1/\w'.cell? ⟨w.heap.size,2,none⟩=some v2/\w'.cell? ⟨w.heap.size,3,none⟩=some v3/\w'.frozen? ⟨w.heap.size,0,none⟩=false/\w'.frozen? ⟨w.heap.size,1,none⟩=false/\w'.frozen? ⟨w.heap.size,2,none⟩=false/\w'.frozen? ⟨w.heap.size,3,none⟩=false:=by
 have a:=(b.block w.heap.size (by simp[World.drew])).trans (ax w (.cells #[v0,v1,v2,v3] t));exact⟨ab a 0,ab a 1,ab a 2,ab a 3,by simp[World.frozen?,a],by simp[World.frozen?,a],by simp[World.frozen?,a],by simp[World.frozen?,a]⟩
theorem Ki{w w':World}{t:TypeId}{v0 v1 v2 v3:Value}(a:Below (w.alloc (.cells #[v0,v1,v2,v3] t)).drew.heap.size (w.alloc (.cells #[v0,v1,v2,v3] t)).drew w'):w'.heap[w.heap.size]?=some (.cells #[v0,v1,v2,v3] t):=
 (a.block w.heap.size (by simp[World.drew])).trans (ax w (.cells #[v0,v1,v2,v3] t))
theorem vv{w:World}{g:Nat}{t:TypeId}{b c d e:Value}(a:w.heap[g]?=some (.cells #[b,c,d,e] t))(v0 v1 v2 v3:Value):(cP w g 0 v0 v1 v2 v3).heap[g]?=some (.cells #[v0,v1,v2,v3] t):=by
 simp[cP,World.setCell,bJ,a]
def uK(N:Nat)(y:Tm (N+1))(w0:World)(q p:Nat)(w2 b:World):Prop:=
 Below w0.heap.size w0 b/\b.heap[p]?=some (.cells #[.int .i64 y.1.1,.int .i64 y.1.2.1,.string y.1.2.2,.slice y.2.1.1 y.2.2.length y.2.1.2] 30)/\p≠q/\(∀a,a<w2.heap.size->a≠p->b.heap[a]?=w2.heap[a]?)/\ch (λa=>w0.heap.size<=a/\a<w2.heap.size/\a≠p) (N+1) y
theorem uK.cells{N:Nat}{y:Tm (N+1)}{w0 w2 a:World}{q p:Nat}(c:uK N y w0 q p w2 a)(d:q<w0.heap.size){t:TypeId}{v0 v1 v2 v3:Value}(e:w0.heap[q]?=some (.cells #[v0,v1,v2,v3] t)):(a.cell? ⟨p,0,none⟩=some (.int .i64 y.1.1)/\a.cell? ⟨p,1,none⟩=some (.int .i64 y.1.2.1)/\a.cell? ⟨p,2,none⟩=some (.string y.1.2.2)/\a.cell? ⟨p,3,none⟩=some (.slice y.2.1.1 y.2.2.length y.2.1.2))/\ (a.cell? ⟨q,0,none⟩=some v0/\a.cell? ⟨q,1,none⟩=some v1/\a.cell? ⟨q,2,none⟩=some v2/\a.cell? ⟨q,3,none⟩=some v3)/\a.frozen? ⟨q,0,none⟩=false/\a.frozen? ⟨q,1,none⟩=false/\a.frozen? ⟨q,2,none⟩=false/\a.frozen? ⟨q,3,none⟩=false/\p≠q:=by
 have b:=(c.1.block q d).trans e;exact⟨⟨ab c.2.1 0,ab c.2.1 1,ab c.2.1 2,ab c.2.1 3⟩,⟨ab b 0,ab b 1,ab b 2,ab b 3⟩,by simp[World.frozen?,b],by simp[World.frozen?,b],by simp[World.frozen?,b],by simp[World.frozen?,b],c.2.2.1⟩
theorem uK.close{N:Nat}{y:Tm (N+1)}{E:Int}{o:Option (Tm (N+1))}{w w0 w2 d:World}{q p:Nat}(f:uK N y w0 q p w2 d)(b:Below w.heap.size w w0)(k:w.heap.size<=q)(t:q<w0.heap.size)(j:In w2.heap.size w2 (N+1) y)(l:aw (N+1) y (N+1) ((mF E o).getD (uo N))=true){v0 v1 v2 v3:Value}(m:w2.heap.size<=d.heap.size):uL N (mF E o) w (.returned (.tuple #[.agg #[.int .i64 y.1.1,.int .i64 y.1.2.1,.string y.1.2.2,.slice y.2.1.1 y.2.2.length y.2.1.2],.bool (CO E (mF E o)==0)])) (cP d q 0 v0 v1 v2 v3):=by
 obtain⟨g,n,r,h,e⟩:=f;have i:=b.trans (g.mono b.size);have s:=b.size;refine⟨y,by rw[GA],cQ i k _ _ _ _,?_,e.mono λa c=>by omega,l⟩;rw[aZ];exact(In.off (P:=λa=>w0.heap.size<=a/\a<w2.heap.size/\a≠p) (λa c=>(aO (by omega) _ _ _ _).trans (h a c.2.1 c.2.2)) e j).mono m
theorem wE(N:Nat)(E:Int)(o:Option (Tm (N+1)))(r s:Int)(t:ByteArray)(xa:Option Addr)(u xc:Nat)(a:Option Addr)(c:Nat)(self:Int)(f:Nat)(w:World)(al:f<w.heap.size)(C:w.cell? ⟨f,0,none⟩=some (.slice a 4 c))(d1:w.cell? ⟨f,1,none⟩=some (.int .i64 self))(K:Hid (∀W,Below w.heap.size w W->Calls Tryz.prog 120 #[.agg #[.int .i64 r,.int .i64 s,.string t,.slice xa u xc],.slice a 4 c,.int .i64 self] W (xM N E o W))):Calls Tryz.prog 89 #[.pointer (some ⟨f,0,none⟩),.agg #[.int .i64 r,.int .i64 s,.string t,.slice xa u xc]] w (uL N (mF E o) w):=by
 have Y:Hid (∃d g y,(d=(w.alloc (.cells #[.int .i64 r,.int .i64 s,.string t,.slice xa u xc] 30)).alloc (.cells #[.int .i64 0,.int .i64 0,.string ⟨#[]⟩,.slice none 0 0] 30)/\g=w.heap.size/\y=w.heap.size+1)/\(g<d.heap.size/\f<d.heap.size/\y<d.heap.size/\w.heap.size<=y)/\Below w.heap.size w d/\d.heap[y]?=some (.cells #[.int .i64 0,.int .i64 0,.string ⟨#[]⟩,.slice none 0 0] 30)/\∀W,Below d.heap.size d W->(W.cell? ⟨g,0,none⟩=some (.int .i64 r)/\W.cell? ⟨g,1,none⟩=some (.int .i64 s)/\W.cell? ⟨g,2,none⟩=some (.string t)/\W.cell? ⟨g,3,none⟩=some (.slice xa u xc))/\W.cell? ⟨f,0,none⟩=some (.slice a 4 c)/\W.cell? ⟨f,1,none⟩=some (.int .i64 self)):=by
  have ak:Below w.heap.size w ((w.alloc (.cells #[.int .i64 r,.int .i64 s,.string t,.slice xa u xc] 30)).alloc (.cells #[.int .i64 0,.int .i64 0,.string ⟨#[]⟩,.slice none 0 0] 30)):=((ah _ _).alloc (ag _) _).alloc (by simp) _;have aq:=ax (w.alloc (.cells #[.int .i64 r,.int .i64 s,.string t,.slice xa u xc] 30)) (.cells #[.int .i64 0,.int .i64 0,.string ⟨#[]⟩,.slice none 0 0] 30);rw[jb]at aq;refine⟨_,_,_,⟨rfl,rfl,rfl⟩,⟨by simp;omega,by simp;omega,by simp,by omega⟩,ak,aq,λW af=>?_⟩;have L:=(af.block w.heap.size (by simp;omega)).trans ((((ah _ _).alloc (ag _) _).block w.heap.size (by simp)).trans (ax w (.cells #[.int .i64 r,.int .i64 s,.string t,.slice xa u xc] 30)));have aj:Below w.heap.size w W:=ak.trans (af.mono (by simp;omega));exact⟨⟨ab L 0,ab L 1,ab L 2,ab L 3⟩,(aj.cell (p:=⟨f,0,none⟩) al).trans C,(aj.cell (p:=⟨f,1,none⟩) al).trans d1⟩
 go_enter Tryz.func89,Tryz.ntmps89;go_wp2_with fail;obtain⟨d,g,y,⟨ap,am,an⟩,i,n,J,h⟩:=Y.out;rw[<-ap,<-an,<-am];replace i:=ai i;replace n:=ai n;replace J:=ai J;replace h:=ai h;clear ap am an Y C d1;obtain⟨⟨Z,aa,ad,ae⟩,C,d1⟩:=h.out d (ah _ _);have x:Hid (Below d.heap.size d d.drew):=(ah _ _).drew;have z:Hid (∀o:Obj,Below d.heap.size d (d.alloc o).drew):=λo=>((ah _ _).alloc (ag _) o).drew;have O:Hid (∀o:Obj,Below w.heap.size w (d.alloc o).drew):=λo=>n.out.trans ((z.out o).mono n.out.size);have P:=ai (n.out.trans (x.out.mono n.out.size))
 go_region_held3 (λW=>(W.cell? ⟨g,0,none⟩=some (.int .i64 r)/\W.cell? ⟨g,1,none⟩=some (.int .i64 s)/\W.cell? ⟨g,2,none⟩=some (.string t)/\W.cell? ⟨g,3,none⟩=some (.slice xa u xc))/\W.cell? ⟨f,0,none⟩=some (.slice a 4 c)/\W.cell? ⟨f,1,none⟩=some (.int .i64 self))
  (first|(go_keep;done)|exact h.out _ x.out|exact h.out _ (z.out _)|exact h.out _ (j.out.alloc j.out.size _)|exact h.out _ ((((j.out.setCell (ag _) _).setCell (ag _) _).setCell (ag _) _).setCell (ag _) _)|exact h.out _ j.out) ((first
   | (go_at_call 120;refine(K.out _ P.out).mono ?_;rintro az q ⟨b,rfl,e⟩;rw[Ah];have j:=ai (x.out.trans (e.out.1.mono x.out.size)))
   | (go_at_call 120;refine(K.out _ (O.out _)).mono ?_;rintro az q ⟨b,rfl,e⟩;rw[Ah];have j:=ai ((z.out _).trans (e.out.1.mono (z.out _).size));have ar:=ai (Ki e.out.1);obtain⟨F,G,H,I,T,U,V,X⟩:=Hu e.out.1)))
 ·have B:Hid (∃m p,(m=q.alloc (.cells #[.int .i64 b.1.1,.int .i64 b.1.2.1,.string b.1.2.2,.slice b.2.1.1 b.2.2.length b.2.1.2] 30)/\p=q.heap.size)/\uK N b d y p q m):=by
    refine⟨_,_,⟨rfl,rfl⟩,j.out.alloc j.out.size _,ax _ _,?_,λM A _=>((ah _ _).alloc (ag _) _).block M A,?_⟩
    ·have:=i.out.2.2.1;have:=j.out.size;omega
    ·exact(In.offB e.out.2.2.1 e.out.2.1).mono λM A=>by have:=x.out.size;omega
  obtain⟨m,p,⟨l,D⟩,k⟩:=B.out;rw[<-l,<-D];replace k:=ai k;have Q:=ai e.out.2.1;have R:=ai e.out.2.2.2;have S:Hid (q.heap.size<=m.heap.size):=by
   rw[l];simp[Hid]
  clear l D B e K h z O P x Z aa ad ae C d1;obtain⟨⟨au,av,aw,ay⟩,⟨F,G,H,I⟩,T,U,V,X,aA⟩:=k.out.cells i.out.2.2.1 J.out;go_wp2_with fail;exact ao (v:=.tuple #[.agg #[.int .i64 b.1.1,.int .i64 b.1.2.1,.string b.1.2.2,.slice b.2.1.1 b.2.2.length b.2.1.2],.bool (CO E (mF E o)==0)]) (by simp[results,Tryz.results89,go_sem,F,G,H,I]) rfl (k.out.close n.out i.out.2.2.2 i.out.2.2.1 Q.out R.out S.out)
 ·have B:Hid (∃m p,(m=cP q d.heap.size 0 (.int .i64 b.1.1) (.int .i64 b.1.2.1) (.string b.1.2.2) (.slice b.2.1.1 b.2.2.length b.2.1.2)/\p=d.heap.size)/\uK N b d y p q m):=by
    refine⟨_,_,⟨rfl,rfl⟩,((((j.out.setCell (ag _) _).setCell (ag _) _).setCell (ag _) _).setCell (ag _) _),?_,?_,λM _ A=>aO A _ _ _ _,?_⟩
    ·exact vv ar.out _ _ _ _
    ·have:=i.out.2.2.1;omega
    ·exact(In.offB e.out.2.2.1 e.out.2.1).mono λM A=>by
       have:=A.1;simp[World.drew]at this;omega
  obtain⟨m,p,⟨l,D⟩,k⟩:=B.out;replace k:=ai k;have Q:=ai e.out.2.1;have R:=ai e.out.2.2.2;have S:Hid (q.heap.size<=m.heap.size):=by
   rw[l,aZ];exact ag _
  unfold cP at l;simp only[cU]at l;rw[<-l,<-D];clear l D B e K h z O P x Z aa ad ae C d1 F G H I T U V X;obtain⟨⟨au,av,aw,ay⟩,⟨F,G,H,I⟩,T,U,V,X,aA⟩:=k.out.cells i.out.2.2.1 J.out;go_wp2_with fail;exact ao (v:=.tuple #[.agg #[.int .i64 b.1.1,.int .i64 b.1.2.1,.string b.1.2.2,.slice b.2.1.1 b.2.2.length b.2.1.2],.bool (CO E (mF E o)==0)]) (by simp[results,Tryz.results89,go_sem,F,G,H,I]) rfl (k.out.close n.out i.out.2.2.2 i.out.2.2.1 Q.out R.out S.out)
def Cz{N:Nat}:Option (Tm (N+1))->Bool
 | some z=>z.1.1==3
 | none=>false
theorem yw(N:Nat)(o:Option (Tm (N+1)))(a c:Int)(d:ByteArray)(xa:Option Addr)(f xc:Nat)(p:Nat)(w:World)(n:Hid (∀W,Below w.heap.size w W->Calls Tryz.prog 89 #[.pointer (some ⟨p,0,none⟩),.agg #[.int .i64 a,.int .i64 c,.string d,.slice xa f xc]] W (uL N o W))):Calls Tryz.prog 160 #[.pointer (some ⟨p,0,none⟩),.agg #[.int .i64 a,.int .i64 c,.string d,.slice xa f xc]] w λe w'=>∃u,e=.returned (.tuple #[.int .i64 u,.bool (Cz o)])/\Hid (Below w.heap.size w w'/\∀z,o=some z->u=z.1.2.1):=by
 have g:Hid (∀o:Obj,Below w.heap.size w (w.alloc o)):=λo=>(ah _ _).alloc (ag _) o;have q:(w.alloc (.cells #[.int .i64 a,.int .i64 c,.string d,.slice xa f xc] 30)).cell? ⟨w.heap.size,0,none⟩=some (.int .i64 a):=ab (ax w _) 0;go_enter Tryz.func160,Tryz.ntmps160;go_wp2_with fail;refine(n.out _ (g.out _)).mono ?_;rintro e t ⟨v,rfl,h⟩;have k:=ai ((g.out (.cells #[.int .i64 a,.int .i64 c,.string d,.slice xa f xc] 30)).trans (h.out.1.mono (g.out _).size));have m:=ai h.out.2.2.2;have l:Hid (∀j:Obj,Below w.heap.size w (t.alloc j).drew):=λj=>(k.out.alloc k.out.size j).drew;clear h n q;cases o with
 | none=>
  simp only[lO];go_wp2_with fail;go_region
  all_goals
   go_wp2_with fail
   go_ret2
   exact⟨_,rfl,l.out _,λz i=>by cases i⟩
 | some z=>
  simp only[jU];have b:=m.out;simp only[Option.getD_some,aw,az,ci]at b;have r:Hid (Cz (some z)=(v.1.1==3)):=by
   show _=_;rw[b.1.1.1];rfl
  have s:=ai b.1.1.2;clear b m;go_wp2_with fail;go_region
  all_goals
   go_wp2_with fail
   go_ret2
   rw[r.out];exact⟨_,rfl,l.out _,λx i=>by cases i;exact s.out⟩
theorem IQ:(Tryz.prog.info? 3).map (λi=>(i.zero,i.size,i.bytes))=some (some (.int .i64 0),1,8):=by kernel_rfl
def Lf(base i:Nat)(f:Option Addr)(L g:Nat)(xs:List Value)(t:Bool)(h:Int->Prop)(w:World)(e:Ending)(w':World):Prop:=
 e=.returned (.bool t)/\(t=false->Below w.heap.size w w')/\
  (t=true->∃d a c b,h d/\b.ownsRow base 3 1 (.slice (some ⟨a,0,none⟩) (L+1) c) (L+1) (xs++ [.int .i64 d])/\bf (λj=>(Value.slice f L g).ownBlock=some j) w b/\((Value.slice f L g).ownBlock=some a\/w.heap.size<=a)/\w'=b.setCell ⟨i,5,none⟩ (.slice (some ⟨a,0,none⟩) (L+1) c))
theorem DI(k s v:Int)(x:ByteArray)(xa:Option Addr)(y xc:Nat)(y0 y1:Int)(y2:ByteArray)(ya:Option Addr)(yl yc:Nat)(nm:ByteArray)(O:Int)(base a:Nat)(b:Option Addr)(L c:Nat)(xs:List Value)(w:World)(t:Bool)(z:Int->Prop)(aj:L<=10000)(G:a<w.heap.size)(ak:base<=w.heap.size)(A:Hid (w.cell? ⟨a,5,none⟩=some (.slice b L c)/\w.frozen? ⟨a,5,none⟩=false))(V:Hid (w.ownsRow base 3 1 (.slice b L c) L xs))(B:Hid ((Value.slice b L c).ownBlock≠some a))(C:Hid (∀W,Below w.heap.size w W->Calls Tryz.prog 160 #[.pointer (some ⟨a,0,none⟩),.agg #[.int .i64 s,.int .i64 v,.string x,.slice xa y xc]] W λe w'=>∃u,e=.returned (.tuple #[.int .i64 u,.bool t])/\Hid (Below W.heap.size W w'/\z u))):Calls Tryz.prog 149 #[.pointer (some ⟨a,0,none⟩),.agg #[.int .i64 k,.int .i64 s,.int .i64 v,.string x,.slice xa y xc,.int .i64 y0,.int .i64 y1,.string y2,.slice ya yl yc,.string nm,.int .i64 O]] w (Lf base a b L c xs t z w):=by
 obtain⟨i,H,J,K,M⟩:=bM IQ;have m:Hid (Tryz.prog.info? 3=some i/\i.zero=some (.int .i64 0)/\i.size=1/\i.bytes=8):=⟨H,J,K,M⟩;clear H J K M;have D:Hid (∃q,q=w.alloc (.cells #[.int .i64 k,.int .i64 s,.int .i64 v,.string x,.slice xa y xc,.int .i64 y0,.int .i64 y1,.string y2,.slice ya yl yc,.string nm,.int .i64 O] 83)/\Below w.heap.size w q):=⟨_,rfl,(ah _ _).alloc (ag _) _⟩;go_enter Tryz.func149,Tryz.ntmps149;go_wp2_with fail;obtain⟨q,N,F⟩:=D.out;rw[<-N];have l:=ai F;clear N F D;refine(C.out _ l.out).mono ?_;rintro e j ⟨u,rfl,o⟩;have d:=ai (l.out.trans (o.out.1.mono l.out.size));have Q:=ai o.out.2;clear o C l;cases t
 ·go_wp2_with fail
  go_ret
  exact⟨rfl,λ_=>d.out,λg=>(by cases g)⟩
 ·have X:j.cell? ⟨a,5,none⟩=some (.slice b L c):=(d.out.cell (p:=⟨a,5,none⟩) G).trans A.out.1;have T:Hid (j.ownsRow base 3 1 (.slice b L c) L xs):=aT V.out (aC d.out λ_=>False) λ_ _ g=>g;have f:=ai d.out.size;have R:Hid (j.frozen? ⟨a,5,none⟩=false):=by
   have h:=A.out.2;unfold World.frozen? at h ⊢;rw[d.out.block a G];exact h
  go_wp2_with (first
   | (at_builtin;refine wpList_append_lies _ rfl _ _ 40 rfl base 3 i _ 1 8 Tryz.underlying40 m.out.1 m.out.2.1 m.out.2.2.1 m.out.2.2.2 rfl (by decide) (.slice b L c) L xs rfl (T.out.alloc _) ⟨j.heap.size,0,none⟩ 1 1 [.int .i64 u] rfl rfl (World.news_of_block (cs:= #[.int .i64 u]) (t:=3) (fr:=(0,0)) (ax j _)) (by simp[Value.oneCell']) (by decide) (by unfold maxLen;omega) (by omega) (by have:=f.out;simp;omega) _ rfl ?_;intro Z Y r I n E aa;have U:=ai I;have S:=ai n;have P:=ai E;have ab:r.cell? ⟨a,5,none⟩=some (.slice b L c):=(n.cell_far ⟨a,5,none⟩ (by show a<_;have:=f.out;simp;omega) (λe=>B.out e.symm)).trans (((ah _ _).alloc (ag _) _ |>.cell (p:=⟨a,5,none⟩) (by show a<_;have:=f.out;omega)).trans X);have ad:r.frozen? ⟨a,5,none⟩=false:=(n.frozen_far ⟨a,5,none⟩ (by show a<_;have:=f.out;simp;omega) (λe=>B.out e.symm)).trans (by have h:=R.out;unfold World.frozen? at h ⊢;rw[((ah _ _).alloc (ag _) (.cells #[.int .i64 u] 3)).block a (by have:=f.out;omega)];exact h);clear I n E aa))
  go_ret
  refine⟨rfl,λg=>(by cases g),λ_=>⟨u,Z,Y,r,Q.out,U.out,?_,?_,rfl⟩⟩
  ·exact bf.trans (aC (d.out.alloc d.out.size _) _) (dS S.out) λ_ _ e=>e
  ·rcases P.out with e|e
   ·exact ae e
   ·have:=f.out;simp at e;exact af (by omega)
section
variable {P:Program} {ops:Array Oper} {Q:Exit->Act->World->Prop} {md:Region.Mode} {S:World->Prop} {X:Nat}
def jk(P:Program)(md:Region.Mode)(ops:Array Oper)(Q:Exit->Act->World->Prop)(S:World->Prop)(X:Nat):Nat->Array Bool->Act->World->Prop
 | 0,listed,a,w=>Region.ready md ops listed=[]/\Q .normal a w
 | fuel+1,listed,a,w=>
  (Region.ready md ops listed=[]->Q .normal a w)/\
  ∀i∈Region.ready md ops listed,wpOp P ops Q i (λb w'=>(i≠X->S w')/\jk P md ops Q S X fuel (listed.setIfInBounds i true) b w') a w
theorem ul:∀(fuel:Nat)(b:Array Bool)(a:Act)(w:World),jk P md ops Q S X fuel b a w->wpAny P md ops Q fuel b a w
 | 0,_,_,_,h=>h
 | fuel+1,_,_,_,h=>⟨h.1,λi e=>wpOp_mono (λc w' d=>ul fuel _ c w' d.2) (h.2 i e)⟩
theorem xF{i:Nat}{m:Oper}{v:Value}(z:ops[i]?=some m)(G:∀(j:Nat)(o:Oper) cs b,ops[j]?=some o->o.op≠.select cs b)(L:∀c a w,Q (.panic c) (a.put m.dst v) w->Q (.panic c) a w)(M:∀d,ops[X]?=some d->∃e∈d.after,Region.binds md e=true/\e.on=i):∀(p:Nat)(f:Array Bool)(a:Act)(w:World),(∀j d,ops[j]?=some d->j≠i->f.getD j true=false->(∀e∈d.after,Region.binds md e=true->e.on≠i)->m.apart ops d=true)-> i∈Region.ready md ops f->YieldsIf P ops S m v a->S w-> jk P md ops Q S X p (f.setIfInBounds i true) (a.put m.dst v) w->jk P md ops Q S X (p+1) f a w:=by
 intro p
 induction p with
 | zero=>
  intro f a w _ l u q n;refine⟨λx=>(by rw[x]at l;cases l),λj s=>?_⟩;by_cases g:j=i
  ·subst g;exact u.wpOp z q ⟨λ_=>q,n⟩
  ·have:=ready_mono s g;rw[n.1]at this;cases this
 | succ p ih=>
  intro f a w B l u q n;refine⟨λx=>(by rw[x]at l;cases l),λj s=>?_⟩;by_cases g:j=i
  ·subst g;exact u.wpOp z q ⟨λ_=>q,n⟩
  ·have h:=n.2 j (ready_mono s g);obtain⟨D,d,t,N⟩:=mem_ready.1 s;have F:∀e∈d.after,Region.binds md e=true->e.on≠i:=λe T O V=>by
    have h:=N e T O;have A:=(mem_ready.1 l).1;rw[V]at h;rcases Nat.lt_or_ge i f.size with y|y
    ·simp[y]at A h;rw[A]at h;cases h
    ·simp[Array.getElem?_eq_none y]at h
   have E:j≠X:=λe=>by
    obtain⟨J,U,R,ab⟩:=M d (by rw[<-e];exact t);exact F J U R ab
   have K:=wpOp_putIf t (B j d t g D F) (λcs b=>G i m cs b z) (λcs b=>G j d cs b t) L u h
   have W:∀k ok,ops[k]?=some ok->k≠i->(f.setIfInBounds j true).getD k true=false->
     (∀e∈ok.after,Region.binds md e=true->e.on≠i)->m.apart ops ok=true:=λk ok Y Z H aa=>by
    refine B k ok Y Z ?_ aa;by_cases C:j=k
    ·subst C;exact D
    ·rw[getD_set_ne true C]at H;exact H
   refine wpOp_mono (λI ad r=>⟨λ_=>r.2.1 E,ih (f.setIfInBounds j true) I ad W (ready_mono l (Ne.symm g)) r.1 (r.2.1 E) ?_⟩) K;rw[Array.setIfInBounds_comm _ _ g];exact r.2.2
def xD(md:Region.Mode)(ops:Array Oper)(X i:Nat):Bool:=((ops[X]?).map λo=>o.after.any λe=>Region.binds md e && e.on==i).getD false
theorem B6{i:Nat}(a:xD md ops X i=true):∀b,ops[X]?=some b->∃e∈b.after,Region.binds md e=true/\e.on=i:=λb c=>by
 unfold xD at a;rw[c]at a;simp only[Option.map_some,Option.getD_some,Array.any_eq_true]at a;obtain⟨k,d,a⟩:=a;simp only[az,ci]at a;exact⟨_,Array.getElem_mem d,a.1,a.2⟩
theorem aM{i:Nat}{d:Oper}{v:Value}{e:Nat}{b:Array Bool}{a:Act}{w:World}(f:ops[i]?=some d)(n:Region.noSelect ops=true)(k:Region.free md ops b i=true)(m:(Region.ready md ops b).contains i=true)(o:xD md ops X i=true)(h:∀c a w,Q (.panic c) (a.put d.dst v) w->Q (.panic c) a w)(l:d.guard=none)(p:∀w,S w->(execOp a.eval d).run P w=.ok (.value v) w)(j:S w)(g:jk P md ops Q S X e (b.setIfInBounds i true) (a.put d.dst v) w):jk P md ops Q S X (e+1) b a w:=
 xF f (Region.noSelect_spec n) h (B6 o) e b a w (Region.free_spec f k) (by simpa using m) (ae ⟨by simp[Region.wanted,l],p⟩) j g
theorem cN{i:Nat}{o:Oper}{d:Nat}{c:Array Bool}{a:Act}{w:World}(h:Region.ready md ops c=[i])(n:ops[i]?=some o)(l:o.guard=none)(j:∀K:Act->World->Prop,Hid (∀b w',(i≠X->S w')->(S w'->jk P md ops Q S X d (c.setIfInBounds i true) b w')->K b w')->o.wp P a w K Q)(m:i≠X):jk P md ops Q S X (d+1) c a w:=by
 refine⟨λe=>(by rw[h]at e;cases e),λq g=>?_⟩;rw[h]at g;obtain rfl:q=i:=by simpa using g
 unfold wpOp;simp only[n];have p:Region.wanted o (yielded ops a.tmps)=true:=by simp[Region.wanted,l]
 simp only[p,cI];exact ae (j _ λb w' f k=>⟨f,k (f m)⟩)
theorem iQ{o:Oper}{c:Nat}{d:Array Bool}{a:Act}{w:World}(i:Region.ready md ops d=[X])(m:ops[X]?=some o)(l:o.guard=none)(g:Region.ready md ops (d.setIfInBounds X true)=[])(j:∀K:Act->World->Prop,Hid (∀b w',Q .normal b w'->K b w')->o.wp P a w K Q):jk P md ops Q S X (c+1) d a w:=by
 refine⟨λe=>(by rw[i]at e;cases e),λp h=>?_⟩;rw[i]at h;obtain rfl:p=X:=by simpa using h
 unfold wpOp;simp only[m];have n:Region.wanted o (yielded ops a.tmps)=true:=by simp[Region.wanted,l]
 simp only[n,cI];refine ae (j _ λb w' f=>⟨λk=>absurd rfl k,?_⟩);cases c with
 | zero=>exact⟨g,f⟩
 | succ c=>exact⟨λ_=>f,by rw[g];simp⟩
theorem iR(S:World->Prop)(X:Nat){id:Nat}{a:Act}{w:World}(c:P.follows .mixedOrders=true)(b:jk P .any ops Q S X ops.size (Array.replicate ops.size false) a w.drew):(Code.region id ops true).wp P Q a w:=
 wp_region_any c (ul _ _ _ _ b)
end
end Go.Proofs.YtnidfceinoiboaaGreat
