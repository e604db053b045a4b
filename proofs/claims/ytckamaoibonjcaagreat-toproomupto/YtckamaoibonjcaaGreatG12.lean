/- What is proved here: plain facts and contracts that the claimed theorem stands on. No condition but those that each names. -/
import Derived.Test.YtckamaoibonjcaaGreatG11
import Derived.OrdersHeld
namespace Go.Proofs.YtckamaoibonjcaaGreat
open Go.RowKit
set_option maxRecDepth 100000
set_option maxHeartbeats 4000000
abbrev Ac(n:Nat):Type:=Int×(Tm n×Tm n)×(ByteArray×Int)
abbrev Cl(n:Nat):Type:=(Tm n×Tm n×Tm n)×(Option Addr×Nat)×List (Ac n)
abbrev Bh(n:Nat):Type:=ByteArray×(Option Addr×Nat)×List (Cl n)
def gR(n:Nat)(x:Tm n):List Value:=ur (fQ n x)
def fM(n:Nat)(a:Ac n):List Value:=.int .i64 a.1::(gR n a.2.1.1++gR n a.2.1.2++ [.string a.2.2.1,.int .i64 a.2.2.2])
def eE(n:Nat)(c:Cl n):List Value:=gR n c.1.1++gR n c.1.2.1++(.slice c.2.1.1 c.2.2.length c.2.1.2::gR n c.1.2.2)
def oM(n:Nat)(b:Bh n):List Value:=[.string b.1,.slice b.2.1.1 b.2.2.length b.2.1.2]
def pe{c:Type}(B:Nat)(w:World)(k:Nat)(f:c->List Value)(i:c->Prop)(a:Option Addr)(l:List c):Prop:=
 l=[]\/∃b o,a=some ⟨b,o,none⟩/\b<B/\∀(e:Nat)(d:c),l[e]?=some d->(∀(g:Nat)(h:Value),(f d)[g]?=some h->w.cell? ⟨b,o+e*k+g,none⟩=some h)/\i d
def gZ(n:Nat)(B:Nat)(w:World)(a:Ac n):Prop:=dh a.1/\In B w n a.2.1.1/\In B w n a.2.1.2/\a.2.2.1.size<=maxLen/\dh a.2.2.2
def gE(n:Nat)(B:Nat)(w:World)(c:Cl n):Prop:=(In B w n c.1.1/\In B w n c.1.2.1/\In B w n c.1.2.2)/\(c.2.2.length<=c.2.1.2/\c.2.1.2<=maxLen)/\pe B w 11 (fM n) (gZ n B w) c.2.1.1 c.2.2
def oJ(n:Nat)(B:Nat)(w:World)(b:Bh n):Prop:=b.1.size<=maxLen/\(b.2.2.length<=b.2.1.2/\b.2.1.2<=maxLen)/\pe B w 13 (eE n) (gE n B w) b.2.1.1 b.2.2
def sD{c:Type}(d:c->Prop)(P:Nat->Prop)(a:Option Addr)(l:List c):Prop:=l=[]\/∃b o,a=some ⟨b,o,none⟩/\P b/\∀y∈l,d y
def lj(n:Nat)(P:Nat->Prop)(a:Ac n):Prop:=bV P n a.2.1.1/\bV P n a.2.1.2
def ju(n:Nat)(P:Nat->Prop)(c:Cl n):Prop:=(bV P n c.1.1/\bV P n c.1.2.1/\bV P n c.1.2.2)/\sD (lj n P) P c.2.1.1 c.2.2
def jt(n:Nat)(P:Nat->Prop)(b:Bh n):Prop:=sD (ju n P) P b.2.1.1 b.2.2
def jv{f:Type}(g:Nat->World->f->Prop)(h:(Nat->Prop)->f->Prop):Prop:=
 (∀(e j:Nat->Prop)(a:f),(∀b,e b->j b)->h e a->h j a)/\(∀(e:Nat->Prop)(c:Nat)(d:World)(a:f),h e a->g c d a->h (λb=>e b/\b<c) a)/\
 (∀(e:Nat->Prop)(c:Nat)(d k:World)(a:f),(∀b,e b->k.heap[b]?=d.heap[b]?)->h e a->g c d a->g c k a)/\(∀(c i:Nat)(d:World)(a:f),c<=i->g c d a->g i d a)/\
 (∀(c:Nat)(d:World)(a:f),g c d a->h (λb=>b<c) a)
theorem nU{B:Nat}{w:World}:{n:Nat}->{x:Tm n}->In B w n x->bV (λb=>b<B) n x
 | 0,_,k=>k
 | _+1,_,k=>by
  obtain⟨_,a⟩:=k;rcases a with a|⟨b,o,e,c,a⟩
  ·exact ae a
  ·exact af ⟨b,o,e,c,λi y d=>nU (a i y d).2⟩
theorem dL(n:Nat):jv (λB w x=>In B w n x) (λP x=>bV P n x):=
 ⟨λ_ _ _ a k=>k.mono a,λ_ _ _ _ a k=>In.offB a k,λ_ _ _ _ _ a b k=>In.off a b k,λ_ _ _ _ a k=>k.mono a,λ_ _ _ k=>nU k⟩
theorem fh(n:Nat):jv (gZ n) (lj n):=by
 obtain⟨i,j,l,m,o⟩:=dL n
 exact⟨λd g e b k=>⟨i d g _ b k.1,i d g _ b k.2⟩,λd a c e b k=>⟨j d a c _ b.1 k.2.1,j d a c _ b.2 k.2.2.1⟩,
  λd a c p e b h k=>⟨k.1,l d a c p _ b h.1 k.2.1,l d a c p _ b h.2 k.2.2.1,k.2.2.2⟩,λa f c e b k=>⟨k.1,m a f c _ b k.2.1,m a f c _ b k.2.2.1,k.2.2.2⟩,
  λa c e k=>⟨o a c _ k.2.1,o a c _ k.2.2.1⟩⟩
theorem cq{r:Type}{s:Nat->World->r->Prop}{t:(Nat->Prop)->r->Prop}(d:jv s t)(k:Nat)(f:r->List Value)(a:Option Addr):jv (λB w l=>pe B w k f (s B w) a l) (λP l=>sD (t P) P a l):=by
 obtain⟨C,D,E,F,G⟩:=d;refine⟨λP v n d k=>?_,λP B w n d k=>?_,λP B w I n d m k=>?_,λB u w n d k=>?_,λB w n k=>?_⟩
 ·rcases k with k|⟨b,o,g,i,k⟩
  ·exact ae k
  ·exact af ⟨b,o,g,d b i,λc e=>C P v c d (k c e)⟩
 ·rcases k with k|⟨b,o,g,i,k⟩
  ·exact ae k
  ·rcases d with d|⟨x,A,j,p,d⟩
   ·exact ae d
   ·rw[g]at j;simp at j;obtain⟨rfl,rfl⟩:=j;refine af ⟨b,o,g,⟨p,i⟩,λc e=>?_⟩;obtain⟨h,q⟩:=cM e;exact D P B w c (d c e) (k h c q).2
 ·rcases k with k|⟨b,o,g,i,k⟩
  ·exact ae k
  ·rcases m with m|⟨x,A,j,p,m⟩
   ·exact ae m
   ·rw[g]at j;simp at j;obtain⟨rfl,rfl⟩:=j;exact af ⟨b,o,g,i,λh c e=>⟨λz H y=>(bk (d b p) _).trans ((k h c e).1 z H y),E P B w I c d (m c (aC e)) (k h c e).2⟩⟩
 ·rcases k with k|⟨b,o,g,i,k⟩
  ·exact ae k
  ·exact af ⟨b,o,g,by omega,λh c e=>⟨(k h c e).1,F B u w c d (k h c e).2⟩⟩
 ·rcases k with k|⟨b,o,g,i,k⟩
  ·exact ae k
  ·refine af ⟨b,o,g,i,λc e=>?_⟩;obtain⟨h,q⟩:=cM e;exact G B w c (k h c q).2
theorem dS(n:Nat):jv (gE n) (ju n):=by
 obtain⟨l,m,o,p,q⟩:=dL n;have e:=λr=>cq (fh n) 11 (fM n) r
 exact⟨λd g j b k=>⟨⟨l d g _ b k.1.1,l d g _ b k.1.2.1,l d g _ b k.1.2.2⟩,(e _).1 d g _ b k.2⟩,
  λd a c j b k=>⟨⟨m d a c _ b.1.1 k.1.1,m d a c _ b.1.2.1 k.1.2.1,m d a c _ b.1.2.2 k.1.2.2⟩,(e _).2.1 d a c _ b.2 k.2.2⟩,
  λd a c i j b h k=>⟨⟨o d a c i _ b h.1.1 k.1.1,o d a c i _ b h.1.2.1 k.1.2.1,o d a c i _ b h.1.2.2 k.1.2.2⟩,k.2.1,(e _).2.2.1 d a c i _ b h.2 k.2.2⟩,
  λa f c j b k=>⟨⟨p a f c _ b k.1.1,p a f c _ b k.1.2.1,p a f c _ b k.1.2.2⟩,k.2.1,(e _).2.2.2.1 a f c _ b k.2.2⟩,
  λa c j k=>⟨⟨q a c _ k.1.1,q a c _ k.1.2.1,q a c _ k.1.2.2⟩,(e _).2.2.2.2 a c _ k.2.2⟩⟩
theorem dI(n:Nat):jv (oJ n) (jt n):=by
 have d:=λi=>cq (dS n) 13 (eE n) i
 exact⟨λe h f b k=>(d _).1 e h _ b k,λe a c f b k=>(d _).2.1 e a c _ b k.2.2,λe a c l f b j k=>⟨k.1,k.2.1,(d _).2.2.1 e a c l _ b j k.2.2⟩,
  λa g c f b k=>⟨k.1,k.2.1,(d _).2.2.2.1 a g c _ b k.2.2⟩,λa c f k=>(d _).2.2.2.2 a c _ k.2.2⟩
def gF(n:Nat)(B:Nat)(w:World)(a:Option Addr)(l:List (Bh n)):Prop:=pe B w 2 (oM n) (oJ n B w) a l
theorem jv.below{c:Type}{a:Nat->World->c->Prop}{e:(Nat->Prop)->c->Prop}(d:jv a e){B:Nat}{w w':World}(f:Below B w w'){x:c}(k:a B w x):a B w' x:=
 d.2.2.1 (λb=>b<B) B w w' x (λb g=>f.block b g) (d.2.2.2.2 B w x k) k
theorem jv.mono{b:Type}{a:Nat->World->b->Prop}{c:(Nat->Prop)->b->Prop}(d:jv a c){B C:Nat}(e:B<=C){w:World}{x:b}(k:a B w x):a C w x:=d.2.2.2.1 B C w x e k
theorem gF.below{n B:Nat}{w w':World}{a:Option Addr}{l:List (Bh n)}(b:Below B w w')(k:gF n B w a l):gF n B w' a l:=(cq (dI n) 2 (oM n) a).below b k
theorem gF.mono{n B C:Nat}(b:B<=C){w:World}{a:Option Addr}{l:List (Bh n)}(k:gF n B w a l):gF n C w a l:=(cq (dI n) 2 (oM n) a).mono b k
def eL{a:Type}(d:Nat->World->a->Prop)(e:(Nat->Prop)->a->Prop)(f:a->List Value)(k:Nat)(T:TypeId)(B base:Nat)(xs:List a)(v:Value)(w0 wr:World):Prop:=
 Below base w0 wr/\wr.ownsRow base T k v xs.length (xs.flatMap f)/\∀c∈xs,d wr.heap.size wr c/\e (λb=>(b<B\/base<=b)/\v.ownBlock≠some b) c
theorem eL.nil{a:Type}{b:Nat->World->a->Prop}{c:(Nat->Prop)->a->Prop}{f:a->List Value}{k:Nat}{T:TypeId}{B base:Nat}(w:World):eL b c f k T B base [] (.slice none 0 0) w w:=
 ⟨ak _ _,ee _ _ _ _,λe d=>by cases d⟩
theorem eL.later{b:Type}{c:Nat->World->b->Prop}{d:(Nat->Prop)->b->Prop}(e:jv c d){f:b->List Value}{k:Nat}{T:TypeId}{B base:Nat}{xs:List b}{v:Value}{w0 wr w1:World}(j:eL c d f k T B base xs v w0 wr)(l:base<=wr.heap.size)(a:ag wr w1):eL c d f k T B base xs v w0 w1:=by
 obtain⟨m,n,h⟩:=j;exact⟨m.trans (a.mono l),dE n a,λi g=>⟨e.mono a.size (e.below a (h i g).1),(h i g).2⟩⟩
theorem eL.step{q:Type}{r:Nat->World->q->Prop}{s:(Nat->Prop)->q->Prop}(e:jv r s){f:q->List Value}{k:Nat}{T:TypeId}{B base:Nat}{xs:List q}{v:Value}{w0 wr w1 w2:World}(D:eL r s f k T B base xs v w0 wr)(L:B<=base)(y:base<=wr.heap.size)(j:ag wr w1)(h:q)(w:r w1.heap.size w1 h)(F:s (λb=>b<B\/wr.heap.size<=b) h){g c:Nat}(H:w2.ownsRow base T k (.slice (some ⟨g,0,none⟩) (xs.length+1) c) (xs.length+1) (xs.flatMap f++f h))(m:w1.grownBy w2 v.ownBlock)(x:v.ownBlock=some g\/g=w1.heap.size):eL r s f k T B base (xs++ [h]) (.slice (some ⟨g,0,none⟩) (xs.length+1) c) w0 w2:=by
 obtain⟨o,J,K⟩:=D;have u:∀b,v.ownBlock=some b->base<=b/\b<wr.heap.size:=λb d=>J.lt b d;have t:∀b,b<w1.heap.size->v.ownBlock≠some b->w2.heap[b]?=w1.heap[b]? :=λb y G=>m.block b y (λd=>G d.symm);have E:=j.size;have z:=m.size;refine⟨⟨(m.os.trans j.os).trans o.os,(m.tape.trans j.tape).trans o.tape,(m.output.trans j.output).trans o.output,by have:=o.size;omega,λb a=>?_⟩,?_,?_⟩
 ·exact(t b (by omega) (λd=>by have:=(u b d).1;omega)).trans ((j.block b (by omega)).trans (o.block b a))
 ·have C:(xs++ [h]).length=xs.length+1:=by simp
  have i:(xs++ [h]).flatMap f=xs.flatMap f++f h:=by simp
  rw[C,i];exact H
 ·intro p l;rcases cU.1 l with l|l
  ·obtain⟨A,I⟩:=K p l;have n:=e.2.1 _ _ _ _ I A;refine⟨e.mono z (e.2.2.1 _ _ w1 w2 p (λb a=>t b ?_ a.1.2) n (e.mono E (e.below j A))),e.1 _ _ p (λb a=>⟨a.1.1,?_⟩) n⟩
   ·have:=a.2;omega
   ·simp only[Value.ownBlock];intro d;injection d with d;rcases x with i|i
    ·exact a.1.2 (by rw[i,d])
    ·have:=a.2;omega
  ·simp only[dA]at l;subst l;have n:=e.2.1 _ _ _ _ F w;refine⟨e.mono z (e.2.2.1 _ _ w1 w2 p (λb a=>t b a.2 (λd=>?_)) n w),e.1 _ _ p (λb a=>⟨?_,?_⟩) n⟩
   ·have:=u b d;have:=a.1;omega
   ·have:=a.1;omega
   ·simp only[Value.ownBlock];intro d;injection d with d;rcases x with i|i
    ·have:=u g i;have:=a.1;omega
    ·have:=a.2;omega
theorem eL.lit{d:Type}{e:Nat->World->d->Prop}{g:(Nat->Prop)->d->Prop}(a:jv e g){f:d->List Value}{k:Nat}{T:TypeId}{B base:Nat}(xs:List d){w0 w1:World}{cs:Array Value}(i:cs.toList=xs.flatMap f)(r:∀x,(f x).length=k)(p:xs.length<=maxLen)(m:base<=w1.heap.size)(q:Below base w0 w1)(c:∀y∈xs,e w1.heap.size w1 y/\g (λb=>b<B\/base<=b) y):eL e g f k T B base xs (.slice (some ⟨w1.heap.size,0,none⟩) xs.length xs.length) w0 (w1.alloc (.cells cs T)):=by
 have h:ag w1 (w1.alloc (.cells cs T)):=(ak _ _).alloc (ai _) _;have o:(xs.flatMap f).length=xs.length*k:=by
  clear i c p
  induction xs with
  | nil=>simp
  | cons x xs ih=>rw[bv,aY,ih,r,aV,Nat.succ_mul];omega
 have s:cs.size=xs.length*k:=by rw[<-o,<-i];simp
 refine⟨q.trans (h.mono m),⟨by rw[o],af ⟨w1.heap.size,xs.length,cs,rfl,m,ax w1 _,ai _,p,by omega,?_⟩⟩,λy j=>⟨a.mono h.size (a.below h (c y j).1),?_⟩⟩
 ·rw[i,bw (by omega)]
 ·refine a.1 _ _ y (λb n=>⟨n.1,?_⟩) (a.2.1 _ _ _ _ (c y j).2 (c y j).1);simp only[Value.ownBlock];intro l;injection l with l;have:=n.2;omega
theorem eL.lay{m:Type}{p:Nat->World->m->Prop}{q:(Nat->Prop)->m->Prop}(y:jv p q){f:m->List Value}{k:Nat}{T:TypeId}{B base:Nat}{xs:List m}{v:Value}{w0 wr:World}(u:∀x,(f x).length=k)(h:eL p q f k T B base xs v w0 wr):∃a c,v=.slice a xs.length c/\(xs.length<=c/\c<=maxLen)/\pe wr.heap.size wr k f (p wr.heap.size wr) a xs/\sD (q (λb=>b<B\/base<=b)) (λb=>b<B\/base<=b) a xs:=by
 obtain⟨M,H,w⟩:=h;rcases H.2 with⟨r,J⟩|⟨s,cap,I,r,E,t,C,F,L,D⟩
 ·have G:xs=[]:=bD (by omega);subst G;exact⟨none,0,r,⟨ai _,aB _⟩,ae rfl,ae rfl⟩
 ·refine⟨some ⟨s,0,none⟩,cap,r,⟨C,F⟩,af ⟨s,0,rfl,(aA.1 t).1,λd e o=>⟨λg j n=>?_,(w e (aC o)).1⟩⟩,af ⟨s,0,rfl,af E,λe o=>y.1 _ _ e (λb A=>A.1) (w e o).2⟩⟩;have z:∀(l:List m)(d g:Nat)(e:m)(j:Value),l[d]?=some e->(f e)[g]?=some j->(l.flatMap f)[d*k+g]?=some j:=by
   intro l
   induction l with
   | nil=>intro d g e j h;simp at h
   | cons x l ih=>
    intro d g e j h n;rw[bv];cases d with
    | zero=>
     simp at h;subst h;rw[de (by have:=(aL.1 n).1;omega)];simpa using n
    | succ d=>
     rw[dZ (by rw[u,Nat.succ_mul];omega),u,Nat.succ_mul,show d*k+k+g-k=d*k+g by omega];exact ih d g e j (by simpa using h) n
  have i:=z xs d g e j o n;have K:=(aL.1 i).1;rw[<-D]at i;rw[jY]at i;split at i
  ·rw[cN];simp only[World.cell?,t];rw[lV]at i;simpa using i
  ·cases i
def GO(i:Option (List An))(f:List An->Option (List An))(w:World)(e:Ending)(w':World):Prop:=
 ∃h len c d,e=.returned (.tuple #[.slice h len c,.bool d])/\Hid (ag w w'/\(i=none->d=false)/\∀b,i=some b->∃g:List (Tm (mm b)),az (λk m=>au (mm b) k (mm b) m) g (Bo b)=true/\(f (mX (mm b) g)=none->d=false)/\
  ∀a,f (mX (mm b) g)=some a->d=true/\len=4/\a.length=4/\∃j l,w.heap.size<=j.heap.size/\gn (mm a) (Bo a) j w' h c l)
theorem CN(g h j k v x s0 s1 K t1:Int)(i m y q t2:ByteArray)(pa n z sa L t:Option Addr)(pl pc p o B A sl sc N M cl u:Nat)(S:Option (List An))(f:List An->Option (List An))(w:World)(Y:Hid (∀E W,ag w E->gn 1 (List.replicate 4 eN) E W (some ⟨E.heap.size,0,none⟩) 4 (List.replicate 4 eN)->ah 136 #[.agg #[.int .i64 g,.int .i64 h,.string i,.slice pa pl pc],.agg #[.int .i64 s0,.int .i64 s1,.string q,.slice sa sl sc],.slice (some ⟨E.heap.size,0,none⟩) 4 4] W (xe 0 S W)))(aA:Hid (∀(b:List An)(l:List (Tm (mm b)))(a:Option Addr)(c:Nat)(E W:World),ag w W->S=some b->b.length=4->gn (mm b) (Bo b) E W a c l->ah 136 #[.agg #[.int .i64 j,.int .i64 k,.string m,.slice n p o],.agg #[.int .i64 K,.int .i64 t1,.string t2,.slice L N M],.slice a 4 c] W (xe 0 (f (mX (mm b) l)) W))):ah 101 #[.agg #[.int .i64 g,.int .i64 h,.string i,.slice pa pl pc,.int .i64 j,.int .i64 k,.string m,.slice n p o,.slice t cl u,.int .i64 v,.int .i64 x,.string y,.slice z B A],.agg #[.int .i64 s0,.int .i64 s1,.string q,.slice sa sl sc],.agg #[.int .i64 K,.int .i64 t1,.string t2,.slice L N M]] w (GO S f w):=by
 go_enter Tryz.func101,Tryz.ntmps101;go_wp2_with fail;have Z:Hid (∃s d e F,(s=((w.alloc (.cells #[.int .i64 g,.int .i64 h,.string i,.slice pa pl pc,.int .i64 j,.int .i64 k,.string m,.slice n p o,.slice t cl u,.int .i64 v,.int .i64 x,.string y,.slice z B A] 147)).alloc (.cells #[.int .i64 s0,.int .i64 s1,.string q,.slice sa sl sc] 30)).alloc (.cells #[.int .i64 K,.int .i64 t1,.string t2,.slice L N M] 30)/\d=w.heap.size/\e=w.heap.size+1/\F=w.heap.size+2)/\ag w s/\∀W,ag s W->(W.cell? ⟨d,0,none⟩=some (.int .i64 g)/\W.cell? ⟨d,1,none⟩=some (.int .i64 h)/\W.cell? ⟨d,2,none⟩=some (.string i)/\W.cell? ⟨d,3,none⟩=some (.slice pa pl pc))/\(W.cell? ⟨d,4,none⟩=some (.int .i64 j)/\W.cell? ⟨d,5,none⟩=some (.int .i64 k)/\W.cell? ⟨d,6,none⟩=some (.string m)/\W.cell? ⟨d,7,none⟩=some (.slice n p o))/\(W.cell? ⟨e,0,none⟩=some (.int .i64 s0)/\W.cell? ⟨e,1,none⟩=some (.int .i64 s1)/\W.cell? ⟨e,2,none⟩=some (.string q)/\W.cell? ⟨e,3,none⟩=some (.slice sa sl sc))/\(W.cell? ⟨F,0,none⟩=some (.int .i64 K)/\W.cell? ⟨F,1,none⟩=some (.int .i64 t1)/\W.cell? ⟨F,2,none⟩=some (.string t2)/\W.cell? ⟨F,3,none⟩=some (.slice L N M))):=by
  have aP:(w.alloc (.cells #[.int .i64 g,.int .i64 h,.string i,.slice pa pl pc,.int .i64 j,.int .i64 k,.string m,.slice n p o,.slice t cl u,.int .i64 v,.int .i64 x,.string y,.slice z B A] 147)).heap.size=w.heap.size+1:=by simp
  have aQ:((w.alloc (.cells #[.int .i64 g,.int .i64 h,.string i,.slice pa pl pc,.int .i64 j,.int .i64 k,.string m,.slice n p o,.slice t cl u,.int .i64 v,.int .i64 x,.string y,.slice z B A] 147)).alloc (.cells #[.int .i64 s0,.int .i64 s1,.string q,.slice sa sl sc] 30)).heap.size=w.heap.size+2:=by simp
  refine⟨_,_,_,_,⟨rfl,rfl,rfl,rfl⟩,(((ak _ _).alloc (ai _) _).alloc (by simp) _).alloc (by simp;omega) _,λW G=>?_⟩;have r:=(G.block w.heap.size (by simp;omega)).trans ((((ak _ _).alloc (ai _) _).block w.heap.size (by simp;omega)).trans ((((ak _ _).alloc (ai _) _).block w.heap.size (by simp)).trans (ax w (.cells #[.int .i64 g,.int .i64 h,.string i,.slice pa pl pc,.int .i64 j,.int .i64 k,.string m,.slice n p o,.slice t cl u,.int .i64 v,.int .i64 x,.string y,.slice z B A] 147))));have ao:=ax (w.alloc (.cells #[.int .i64 g,.int .i64 h,.string i,.slice pa pl pc,.int .i64 j,.int .i64 k,.string m,.slice n p o,.slice t cl u,.int .i64 v,.int .i64 x,.string y,.slice z B A] 147)) (.cells #[.int .i64 s0,.int .i64 s1,.string q,.slice sa sl sc] 30);rw[aP]at ao;have Q:=(G.block (w.heap.size+1) (by simp)).trans ((((ak _ _).alloc (ai _) _).block (w.heap.size+1) (by simp)).trans ao);have ap:=ax ((w.alloc (.cells #[.int .i64 g,.int .i64 h,.string i,.slice pa pl pc,.int .i64 j,.int .i64 k,.string m,.slice n p o,.slice t cl u,.int .i64 v,.int .i64 x,.string y,.slice z B A] 147)).alloc (.cells #[.int .i64 s0,.int .i64 s1,.string q,.slice sa sl sc] 30)) (.cells #[.int .i64 K,.int .i64 t1,.string t2,.slice L N M] 30);rw[aQ]at ap;have R:=(G.block (w.heap.size+2) (by simp)).trans ap;exact⟨⟨ab r 0,ab r 1,ab r 2,ab r 3⟩,⟨ab r 4,ab r 5,ab r 6,ab r 7⟩,⟨ab Q 0,ab Q 1,ab Q 2,ab Q 3⟩,ab R 0,ab R 1,ab R 2,ab R 3⟩
 obtain⟨s,d,e,F,⟨am,ae,af,al⟩,C,D⟩:=Z.out;rw[<-am,<-al,<-af,<-ae];replace C:=aj C;replace D:=aj D;clear am ae af al Z;obtain⟨⟨ar,au,av,ay⟩,_,⟨y0,y1,y2,az⟩,_⟩:=D.out s (ak _ _);have I:Hid (ag s s.drew):=(ak _ _).drew;have P:Hid (∀W,ag s W->(W.cell? ⟨d,0,none⟩=some (.int .i64 g)/\W.cell? ⟨d,1,none⟩=some (.int .i64 h)/\W.cell? ⟨d,2,none⟩=some (.string i)/\W.cell? ⟨d,3,none⟩=some (.slice pa pl pc))/\(W.cell? ⟨e,0,none⟩=some (.int .i64 s0)/\W.cell? ⟨e,1,none⟩=some (.int .i64 s1)/\W.cell? ⟨e,2,none⟩=some (.string q)/\W.cell? ⟨e,3,none⟩=some (.slice sa sl sc))):=λW G=>⟨(D.out W G).1,(D.out W G).2.2.1⟩
 go_region_held3 (λW=>(W.cell? ⟨d,0,none⟩=some (.int .i64 g)/\W.cell? ⟨d,1,none⟩=some (.int .i64 h)/\W.cell? ⟨d,2,none⟩=some (.string i)/\W.cell? ⟨d,3,none⟩=some (.slice pa pl pc))/\(W.cell? ⟨e,0,none⟩=some (.int .i64 s0)/\W.cell? ⟨e,1,none⟩=some (.int .i64 s1)/\W.cell? ⟨e,2,none⟩=some (.string q)/\W.cell? ⟨e,3,none⟩=some (.slice sa sl sc)))
  (first|(go_keep;done)|exact P.out _ I.out|exact P.out _ T.out|exact P.out _ O.out) ((first
   | (go_at_call 137;refine(Ax _).mono ?_;rintro aa a4 ⟨rfl,V⟩;have O:=aj (I.out.trans (V.out.1.mono I.out.size)))
   | (go_at_call 136;refine(Y.out _ _ (C.out.trans (I.out.mono C.out.size)) V.out).mono ?_;rintro aa aq ⟨aD,aW,aG,aZ,rfl,J⟩;have T:=aj (O.out.trans (J.out.1.mono O.out.size)))))
 have H:=aj (C.out.trans (T.out.mono C.out.size));clear ar au av ay y0 y1 y2 az P V O I Y;cases S with
 | none=>
  obtain⟨rfl,rfl⟩:aW=0/\aZ=false:=J.out.2.1 (by simp);clear J;go_wp2_with fail
  go_ret2
  exact⟨none,0,0,false,rfl,H.out,λ_=>rfl,λb aJ=>by cases aJ⟩
 | some b=>
  obtain⟨aO,aM,ad,a1,an,aR,X⟩:=J.out.2.2 b trivial rfl;subst aO aM;have aC:=aj (aA.out b an aD aG a1 aq H.out rfl ad X);have aB:=aj X.2.2.2.2.1;obtain⟨_,⟨ar,au,av,ay⟩,_,y0,y1,y2,az⟩:=D.out aq T.out;clear X J ad aR;go_wp2_with fail;refine aC.out.mono ?_;rintro aa a5 ⟨aE,aX,aH,a0,rfl,U⟩;go_wp2_with fail
  go_ret2
  refine⟨aE,aX,aH,a0,rfl,H.out.trans (U.out.1.mono H.out.size),(λaI=>by cases aI),λa3 aK=>?_⟩;cases aK;refine⟨an,aB.out,λaN=>(U.out.2.1 (by simp[aN])).2,λaF aL=>?_⟩;obtain⟨aS,aT,aU,a2,aY,aV,kc⟩:=U.out.2.2 aF trivial aL;exact⟨aS,aT,aU,a2,aY,aw H.out.size aV,kc⟩
theorem Km{n:Nat}{p l:List (Tm n)}{w w':World}{a:Option Addr}{c:Nat}(i:gn n p w w' a c l):fe w'.heap.size w' n l a:=by
 obtain⟨_,_,_,_,_,k⟩:=i;rcases k with d|⟨b,o,d,_,j,e⟩
 ·exact ae d
 ·exact af ⟨b,o,d,j,λg h f=>⟨(e g h f).1,(e g h f).2.1⟩⟩
theorem qB{y:An}(a:BJ y):av y:=aG.2 (br.1 a.1).1
theorem BN:∀y∈mX 1 (List.replicate 4 eN),BJ y:=by
 intro y a;simp only[mX,bZ,List.mem_replicate]at a;obtain⟨b,⟨_,rfl⟩,rfl⟩:=a;exact⟨xu,ae rfl⟩
theorem eH{n:Nat}{x:Tm n}(a:bm n x=0):(ar n x).length<=2097152:=aw (ni a) (by omega)
theorem FP(n m k:Nat)(c:Cl (n+1))(s:Tm (m+1))(t:Tm (k+1))(B:Nat)(w:World)(C:gE (n+1) B w c)(K:In B w (m+1) s)(L:In B w (k+1) t)(a:B<=w.heap.size)(u:bm (n+1) c.1.1=0)(v:bm (n+1) c.1.2.1=0)(p:bm (m+1) s=0)(x:jD (m+1) s=true)(y:bm (k+1) t=0)(H:jD (k+1) t=true):ah 101 #[.agg (eE (n+1) c).toArray,dd (m+1) s,dd (k+1) t] w (GO (gG (n+1) c.1.1 (m+1) s (mX 1 (List.replicate 4 eN))) (gG (n+1) c.1.2.1 (k+1) t) w):=by
 refine CN c.1.1.1.1 c.1.1.1.2.1 c.1.2.1.1.1 c.1.2.1.1.2.1 c.1.2.2.1.1 c.1.2.2.1.2.1 s.1.1 s.1.2.1 t.1.1 t.1.2.1 c.1.1.1.2.2 c.1.2.1.1.2.2 c.1.2.2.1.2.2 s.1.2.2 t.1.2.2 c.1.1.2.1.1 c.1.2.1.2.1.1 c.1.2.2.2.1.1 s.2.1.1 t.2.1.1 c.2.1.1
  c.1.1.2.2.length c.1.1.2.1.2 c.1.2.1.2.2.length c.1.2.1.2.1.2 c.1.2.2.2.2.length c.1.2.2.2.1.2 s.2.2.length s.2.1.2 t.2.2.length t.2.1.2 c.2.2.length c.2.1.2 _ _ w ?_ ?_
 ·intro r d z i;have h:=z.trans (i.1.mono z.size)
  have e:=vT (n+1) (m+1) 1 c.1.1 s (List.replicate 4 eN) (some ⟨r.heap.size,0,none⟩) 4 d.heap.size d ((C.1.1.below (h.mono a)).mono (aw a h.size)) ((K.below (h.mono a)).mono (aw a h.size)) (Km i) (ai _) (eH u) (eH p) (λj f=>by
   rw[(List.mem_replicate.1 f).2]
   exact eH xu) (by simp)
  have o:sH (bm (n+1) c.1.1) (bm (m+1) s) (jD (m+1) s) (fO 1 (List.replicate 4 eN))=0:=by
   rw[u,p,x,G5];rfl
  rw[o]at e;exact e
 ·intro b l E F r d g J G i;have q:=ko BJ nA (n+1) c.1.1 (m+1) s ⟨p,af (by rw[eT];exact x)⟩ (mX 1 (List.replicate 4 eN)) b ⟨by simp[mX],BN⟩ J;obtain⟨I,D,M,N⟩:=DQ i (λj f=>qB (q.2 j f)) G;have A:=wP q.2 D q.1 M;have e:=vT (n+1) (k+1) (mm b) c.1.2.1 t l E F d.heap.size d ((C.1.2.1.below (g.mono a)).mono (aw a g.size)) ((L.below (g.mono a)).mono (aw a g.size)) I (ai _) (eH v) (eH y) (λj f=>eH ((gK A).2 j f).1) (by omega);have o:sH (bm (n+1) c.1.2.1) (bm (k+1) t) (jD (k+1) t) (fO (mm b) l)=0:=by
   rw[v,y,H,A];rfl
  rw[o,D]at e;exact e
def vB(N:Nat)(o:Option (Tm (N+1)))(w:World)(e:Ending)(w':World):Prop:=
 ∃a:Tm (N+1),e=.returned (.tuple #[.agg #[.int .i64 a.1.1,.int .i64 a.1.2.1,.string a.1.2.2,.slice a.2.1.1 a.2.2.length a.2.1.2],.bool o.isSome])/\Hid (ag w w'/\In w'.heap.size w' (N+1) a/\bV (λb=>w.heap.size<=b) (N+1) a/\au (N+1) a (N+1) (o.getD (uZ N))=true)
theorem I8{N:Nat}{E:Int}{o:Option (Tm N)}:(Ei E (nb E o)==0)=(nb E o).isSome:=by
 unfold Ei;by_cases a:E=0
 ·rw[if_pos a];cases (nb E o).isSome<;>simp
 ·rw[if_neg a];have:nb E o=none:=by unfold nb;rw[if_neg a]
  rw[this];simp[a]
theorem Bp{N:Nat}(y:Tm (N+1)):dd (N+1) y=.agg #[.int .i64 y.1.1,.int .i64 y.1.2.1,.string y.1.2.2,.slice y.2.1.1 y.2.2.length y.2.1.2]:=rfl
theorem JR{w w':World}{t:TypeId}{v0 v1 v2 v3:Value}(b:Below (w.alloc (.cells #[v0,v1,v2,v3] t)).drew.heap.size (w.alloc (.cells #[v0,v1,v2,v3] t)).drew w'):w'.cell? ⟨w.heap.size,0,none⟩=some v0/\w'.cell? ⟨w.heap.size,1,none⟩=some v1/\w'.cell? ⟨w.heap.size,2,none⟩=some v2/\w'.cell? ⟨w.heap.size,3,none⟩=some v3/\w'.frozen? ⟨w.heap.size,0,none⟩=false/\w'.frozen? ⟨w.heap.size,1,none⟩=false/\w'.frozen? ⟨w.heap.size,2,none⟩=false/\w'.frozen? ⟨w.heap.size,3,none⟩=false:=by
 have a:=(b.block w.heap.size (by simp[World.drew])).trans (ax w (.cells #[v0,v1,v2,v3] t));exact⟨ab a 0,ab a 1,ab a 2,ab a 3,by simp[World.frozen?,a],by simp[World.frozen?,a],by simp[World.frozen?,a],by simp[World.frozen?,a]⟩
theorem Mn{w w':World}{t:TypeId}{v0 v1 v2 v3:Value}(a:Below (w.alloc (.cells #[v0,v1,v2,v3] t)).drew.heap.size (w.alloc (.cells #[v0,v1,v2,v3] t)).drew w'):w'.heap[w.heap.size]?=some (.cells #[v0,v1,v2,v3] t):=
 (a.block w.heap.size (by simp[World.drew])).trans (ax w (.cells #[v0,v1,v2,v3] t))
theorem rD{w:World}{g:Nat}{t:TypeId}{b c d e:Value}(a:w.heap[g]?=some (.cells #[b,c,d,e] t))(v0 v1 v2 v3:Value):(cE w g 0 v0 v1 v2 v3).heap[g]?=some (.cells #[v0,v1,v2,v3] t):=by
 simp[cE,World.setCell,bC,a]
def vA(N:Nat)(y:Tm (N+1))(w0:World)(q p:Nat)(w2 b:World):Prop:=
 ag w0 b/\b.heap[p]?=some (.cells #[.int .i64 y.1.1,.int .i64 y.1.2.1,.string y.1.2.2,.slice y.2.1.1 y.2.2.length y.2.1.2] 30)/\p≠q/\(∀a,a<w2.heap.size->a≠p->b.heap[a]?=w2.heap[a]?)/\bV (λa=>w0.heap.size<=a/\a<w2.heap.size/\a≠p) (N+1) y
theorem vA.cells{N:Nat}{y:Tm (N+1)}{w0 w2 a:World}{q p:Nat}(c:vA N y w0 q p w2 a)(d:q<w0.heap.size){t:TypeId}{v0 v1 v2 v3:Value}(e:w0.heap[q]?=some (.cells #[v0,v1,v2,v3] t)):(a.cell? ⟨p,0,none⟩=some (.int .i64 y.1.1)/\a.cell? ⟨p,1,none⟩=some (.int .i64 y.1.2.1)/\a.cell? ⟨p,2,none⟩=some (.string y.1.2.2)/\a.cell? ⟨p,3,none⟩=some (.slice y.2.1.1 y.2.2.length y.2.1.2))/\ (a.cell? ⟨q,0,none⟩=some v0/\a.cell? ⟨q,1,none⟩=some v1/\a.cell? ⟨q,2,none⟩=some v2/\a.cell? ⟨q,3,none⟩=some v3)/\a.frozen? ⟨q,0,none⟩=false/\a.frozen? ⟨q,1,none⟩=false/\a.frozen? ⟨q,2,none⟩=false/\a.frozen? ⟨q,3,none⟩=false/\p≠q:=by
 have b:=(c.1.block q d).trans e;exact⟨⟨ab c.2.1 0,ab c.2.1 1,ab c.2.1 2,ab c.2.1 3⟩,⟨ab b 0,ab b 1,ab b 2,ab b 3⟩,by simp[World.frozen?,b],by simp[World.frozen?,b],by simp[World.frozen?,b],by simp[World.frozen?,b],c.2.2.1⟩
theorem vA.close{N:Nat}{y:Tm (N+1)}{E:Int}{o:Option (Tm (N+1))}{w w0 w2 d:World}{q p:Nat}(f:vA N y w0 q p w2 d)(b:ag w w0)(k:w.heap.size<=q)(t:q<w0.heap.size)(j:In w2.heap.size w2 (N+1) y)(l:au (N+1) y (N+1) ((nb E o).getD (uZ N))=true){v0 v1 v2 v3:Value}(m:w2.heap.size<=d.heap.size):vB N (nb E o) w (.returned (.tuple #[.agg #[.int .i64 y.1.1,.int .i64 y.1.2.1,.string y.1.2.2,.slice y.2.1.1 y.2.2.length y.2.1.2],.bool (Ei E (nb E o)==0)])) (cE d q 0 v0 v1 v2 v3):=by
 obtain⟨g,n,r,h,e⟩:=f;have i:=b.trans (g.mono b.size);have s:=b.size;refine⟨y,by rw[I8],cQ i k _ _ _ _,?_,e.mono λa c=>by omega,l⟩;rw[bf];exact(In.off (P:=λa=>w0.heap.size<=a/\a<w2.heap.size/\a≠p) (λa c=>(aR (by omega) _ _ _ _).trans (h a c.2.1 c.2.2)) e j).mono m
theorem xG(N:Nat)(E:Int)(o:Option (Tm (N+1)))(r s:Int)(t:ByteArray)(xa:Option Addr)(u xc:Nat)(a:Option Addr)(c:Nat)(self:Int)(f:Nat)(w:World)(an:f<w.heap.size)(C:w.cell? ⟨f,0,none⟩=some (.slice a 4 c))(d1:w.cell? ⟨f,1,none⟩=some (.int .i64 self))(K:Hid (∀W,ag w W->ah 139 #[.agg #[.int .i64 r,.int .i64 s,.string t,.slice xa u xc],.slice a 4 c,.int .i64 self] W (yW N E o W))):ah 103 #[.pointer (some ⟨f,0,none⟩),.agg #[.int .i64 r,.int .i64 s,.string t,.slice xa u xc]] w (vB N (nb E o) w):=by
 have Y:Hid (∃d g y,(d=(w.alloc (.cells #[.int .i64 r,.int .i64 s,.string t,.slice xa u xc] 30)).alloc (.cells #[.int .i64 0,.int .i64 0,.string ⟨#[]⟩,.slice none 0 0] 30)/\g=w.heap.size/\y=w.heap.size+1)/\(g<d.heap.size/\f<d.heap.size/\y<d.heap.size/\w.heap.size<=y)/\ag w d/\d.heap[y]?=some (.cells #[.int .i64 0,.int .i64 0,.string ⟨#[]⟩,.slice none 0 0] 30)/\∀W,ag d W->(W.cell? ⟨g,0,none⟩=some (.int .i64 r)/\W.cell? ⟨g,1,none⟩=some (.int .i64 s)/\W.cell? ⟨g,2,none⟩=some (.string t)/\W.cell? ⟨g,3,none⟩=some (.slice xa u xc))/\W.cell? ⟨f,0,none⟩=some (.slice a 4 c)/\W.cell? ⟨f,1,none⟩=some (.int .i64 self)):=by
  have am:ag w ((w.alloc (.cells #[.int .i64 r,.int .i64 s,.string t,.slice xa u xc] 30)).alloc (.cells #[.int .i64 0,.int .i64 0,.string ⟨#[]⟩,.slice none 0 0] 30)):=((ak _ _).alloc (ai _) _).alloc (by simp) _;have au:=ax (w.alloc (.cells #[.int .i64 r,.int .i64 s,.string t,.slice xa u xc] 30)) (.cells #[.int .i64 0,.int .i64 0,.string ⟨#[]⟩,.slice none 0 0] 30);rw[gC]at au;refine⟨_,_,_,⟨rfl,rfl,rfl⟩,⟨by simp;omega,by simp;omega,by simp,by omega⟩,am,au,λW af=>?_⟩;have L:=(af.block w.heap.size (by simp;omega)).trans ((((ak _ _).alloc (ai _) _).block w.heap.size (by simp)).trans (ax w (.cells #[.int .i64 r,.int .i64 s,.string t,.slice xa u xc] 30)));have al:ag w W:=am.trans (af.mono (by simp;omega));exact⟨⟨ab L 0,ab L 1,ab L 2,ab L 3⟩,(al.cell (p:=⟨f,0,none⟩) an).trans C,(al.cell (p:=⟨f,1,none⟩) an).trans d1⟩
 go_enter Tryz.func103,Tryz.ntmps103;go_wp2_with fail;obtain⟨d,g,y,⟨ar,ao,aq⟩,i,n,J,h⟩:=Y.out;rw[<-ar,<-aq,<-ao];replace i:=aj i;replace n:=aj n;replace J:=aj J;replace h:=aj h;clear ar ao aq Y C d1;obtain⟨⟨Z,aa,ad,ae⟩,C,d1⟩:=h.out d (ak _ _);have x:Hid (ag d d.drew):=(ak _ _).drew;have z:Hid (∀o:Obj,ag d (d.alloc o).drew):=λo=>((ak _ _).alloc (ai _) o).drew;have O:Hid (∀o:Obj,ag w (d.alloc o).drew):=λo=>n.out.trans ((z.out o).mono n.out.size);have P:=aj (n.out.trans (x.out.mono n.out.size))
 go_region_held3 (λW=>(W.cell? ⟨g,0,none⟩=some (.int .i64 r)/\W.cell? ⟨g,1,none⟩=some (.int .i64 s)/\W.cell? ⟨g,2,none⟩=some (.string t)/\W.cell? ⟨g,3,none⟩=some (.slice xa u xc))/\W.cell? ⟨f,0,none⟩=some (.slice a 4 c)/\W.cell? ⟨f,1,none⟩=some (.int .i64 self))
  (first|(go_keep;done)|exact h.out _ x.out|exact h.out _ (z.out _)|exact h.out _ (j.out.alloc j.out.size _)|exact h.out _ ((((j.out.setCell (ai _) _).setCell (ai _) _).setCell (ai _) _).setCell (ai _) _)|exact h.out _ j.out) ((first
   | (go_at_call 139;refine(K.out _ P.out).mono ?_;rintro aB q ⟨b,rfl,e⟩;rw[Bp];have j:=aj (x.out.trans (e.out.1.mono x.out.size)))
   | (go_at_call 139;refine(K.out _ (O.out _)).mono ?_;rintro aB q ⟨b,rfl,e⟩;rw[Bp];have j:=aj ((z.out _).trans (e.out.1.mono (z.out _).size));have av:=aj (Mn e.out.1);obtain⟨F,G,H,I,T,U,V,X⟩:=JR e.out.1)))
 ·have B:Hid (∃m p,(m=q.alloc (.cells #[.int .i64 b.1.1,.int .i64 b.1.2.1,.string b.1.2.2,.slice b.2.1.1 b.2.2.length b.2.1.2] 30)/\p=q.heap.size)/\vA N b d y p q m):=by
    refine⟨_,_,⟨rfl,rfl⟩,j.out.alloc j.out.size _,ax _ _,?_,λM A _=>((ak _ _).alloc (ai _) _).block M A,?_⟩
    ·have:=i.out.2.2.1;have:=j.out.size;omega
    ·exact(In.offB e.out.2.2.1 e.out.2.1).mono λM A=>by have:=x.out.size;omega
  obtain⟨m,p,⟨l,D⟩,k⟩:=B.out;rw[<-l,<-D];replace k:=aj k;have Q:=aj e.out.2.1;have R:=aj e.out.2.2.2;have S:Hid (q.heap.size<=m.heap.size):=by
   rw[l];simp[Hid]
  clear l D B e K h z O P x Z aa ad ae C d1;obtain⟨⟨aw,ay,az,aA⟩,⟨F,G,H,I⟩,T,U,V,X,aC⟩:=k.out.cells i.out.2.2.1 J.out;go_wp2_with fail;exact ap (v:=.tuple #[.agg #[.int .i64 b.1.1,.int .i64 b.1.2.1,.string b.1.2.2,.slice b.2.1.1 b.2.2.length b.2.1.2],.bool (Ei E (nb E o)==0)]) (by simp[results,Tryz.results103,go_sem,F,G,H,I]) rfl (k.out.close n.out i.out.2.2.2 i.out.2.2.1 Q.out R.out S.out)
 ·have B:Hid (∃m p,(m=cE q d.heap.size 0 (.int .i64 b.1.1) (.int .i64 b.1.2.1) (.string b.1.2.2) (.slice b.2.1.1 b.2.2.length b.2.1.2)/\p=d.heap.size)/\vA N b d y p q m):=by
    refine⟨_,_,⟨rfl,rfl⟩,((((j.out.setCell (ai _) _).setCell (ai _) _).setCell (ai _) _).setCell (ai _) _),?_,?_,λM _ A=>aR A _ _ _ _,?_⟩
    ·exact rD av.out _ _ _ _
    ·have:=i.out.2.2.1;omega
    ·exact(In.offB e.out.2.2.1 e.out.2.1).mono λM A=>by
       have:=A.1;simp[World.drew]at this;omega
  obtain⟨m,p,⟨l,D⟩,k⟩:=B.out;replace k:=aj k;have Q:=aj e.out.2.1;have R:=aj e.out.2.2.2;have S:Hid (q.heap.size<=m.heap.size):=by
   rw[l,bf];exact ai _
  unfold cE at l;simp only[cN]at l;rw[<-l,<-D];clear l D B e K h z O P x Z aa ad ae C d1 F G H I T U V X;obtain⟨⟨aw,ay,az,aA⟩,⟨F,G,H,I⟩,T,U,V,X,aC⟩:=k.out.cells i.out.2.2.1 J.out;go_wp2_with fail;exact ap (v:=.tuple #[.agg #[.int .i64 b.1.1,.int .i64 b.1.2.1,.string b.1.2.2,.slice b.2.1.1 b.2.2.length b.2.1.2],.bool (Ei E (nb E o)==0)]) (by simp[results,Tryz.results103,go_sem,F,G,H,I]) rfl (k.out.close n.out i.out.2.2.2 i.out.2.2.1 Q.out R.out S.out)
def D0{N:Nat}:Option (Tm (N+1))->Bool
 | some a=>a.1.1==3
 | none=>false
theorem zJ(N:Nat)(o:Option (Tm (N+1)))(a d:Int)(f:ByteArray)(xa:Option Addr)(g xc:Nat)(q:Nat)(w:World)(p:Hid (∀W,ag w W->ah 103 #[.pointer (some ⟨q,0,none⟩),.agg #[.int .i64 a,.int .i64 d,.string f,.slice xa g xc]] W (vB N o W))):ah 174 #[.pointer (some ⟨q,0,none⟩),.agg #[.int .i64 a,.int .i64 d,.string f,.slice xa g xc]] w λe w'=>∃r,e=.returned (.tuple #[.int .i64 r,.bool (D0 o)])/\Hid (ag w w'/\∀b,o=some b->r=b.1.2.1):=by
 have h:Hid (∀o:Obj,ag w (w.alloc o)):=λo=>(ak _ _).alloc (ai _) o;have s:(w.alloc (.cells #[.int .i64 a,.int .i64 d,.string f,.slice xa g xc] 30)).cell? ⟨w.heap.size,0,none⟩=some (.int .i64 a):=ab (ax w _) 0;go_enter Tryz.func174,Tryz.ntmps174;go_wp2_with fail;refine(p.out _ (h.out _)).mono ?_;rintro e v ⟨x,rfl,i⟩;have l:=aj ((h.out (.cells #[.int .i64 a,.int .i64 d,.string f,.slice xa g xc] 30)).trans (i.out.1.mono (h.out _).size));have n:=aj i.out.2.2.2;have m:Hid (∀k:Obj,ag w (v.alloc k).drew):=λk=>(l.out.alloc l.out.size k).drew;clear i p s;cases o with
 | none=>
  simp only[mh];go_wp2_with fail;go_region
  all_goals
   go_wp2_with fail
   go_ret2
   exact⟨_,rfl,m.out _,λb j=>by cases j⟩
 | some b=>
  simp only[mi];have c:=n.out;simp only[Option.getD_some,au,ay,b9]at c;have t:Hid (D0 (some b)=(x.1.1==3)):=by
   show _=_;rw[c.1.1.1];rfl
  have u:=aj c.1.1.2;clear c n;go_wp2_with fail;go_region
  all_goals
   go_wp2_with fail
   go_ret2
   rw[t.out];exact⟨_,rfl,m.out _,λy j=>by cases j;exact u.out⟩
theorem KI:(Tryz.prog.info? 3).map (λi=>(i.zero,i.size,i.bytes))=some (some (.int .i64 0),1,8):=by kernel_rfl
def Nb(base i:Nat)(f:Option Addr)(L g:Nat)(xs:List Value)(t:Bool)(h:Int->Prop)(w:World)(e:Ending)(w':World):Prop:=
 e=.returned (.bool t)/\(t=false->ag w w')/\
  (t=true->∃d a c b,h d/\b.ownsRow base 3 1 (.slice (some ⟨a,0,none⟩) (L+1) c) (L+1) (xs++ [.int .i64 d])/\bi (λj=>(Value.slice f L g).ownBlock=some j) w b/\((Value.slice f L g).ownBlock=some a\/w.heap.size<=a)/\w'=b.setCell ⟨i,5,none⟩ (.slice (some ⟨a,0,none⟩) (L+1) c))
theorem Fp(k u v:Int)(x:ByteArray)(xa:Option Addr)(y xc:Nat)(y0 y1:Int)(y2:ByteArray)(ya:Option Addr)(yl yc:Nat)(nm:ByteArray)(O:Int)(base a:Nat)(b:Option Addr)(L c:Nat)(xs:List Value)(w:World)(t:Bool)(z:Int->Prop)(al:L<=10000)(G:a<w.heap.size)(am:base<=w.heap.size)(A:Hid (w.cell? ⟨a,5,none⟩=some (.slice b L c)/\w.frozen? ⟨a,5,none⟩=false))(V:Hid (w.ownsRow base 3 1 (.slice b L c) L xs))(B:Hid ((Value.slice b L c).ownBlock≠some a))(C:Hid (∀W,ag w W->ah 174 #[.pointer (some ⟨a,0,none⟩),.agg #[.int .i64 u,.int .i64 v,.string x,.slice xa y xc]] W λe w'=>∃f,e=.returned (.tuple #[.int .i64 f,.bool t])/\Hid (ag W w'/\z f))):ah 163 #[.pointer (some ⟨a,0,none⟩),.agg #[.int .i64 k,.int .i64 u,.int .i64 v,.string x,.slice xa y xc,.int .i64 y0,.int .i64 y1,.string y2,.slice ya yl yc,.string nm,.int .i64 O]] w (Nb base a b L c xs t z w):=by
 obtain⟨j,H,J,K,M⟩:=bO KI;have n:Hid (Tryz.prog.info? 3=some j/\j.zero=some (.int .i64 0)/\j.size=1/\j.bytes=8):=⟨H,J,K,M⟩;clear H J K M;have D:Hid (∃r,r=w.alloc (.cells #[.int .i64 k,.int .i64 u,.int .i64 v,.string x,.slice xa y xc,.int .i64 y0,.int .i64 y1,.string y2,.slice ya yl yc,.string nm,.int .i64 O] 224)/\ag w r):=⟨_,rfl,(ak _ _).alloc (ai _) _⟩;go_enter Tryz.func163,Tryz.ntmps163;go_wp2_with fail;obtain⟨r,N,F⟩:=D.out;rw[<-N];have m:=aj F;clear N F D;refine(C.out _ m.out).mono ?_;rintro e l ⟨f,rfl,q⟩;have d:=aj (m.out.trans (q.out.1.mono m.out.size));have Q:=aj q.out.2;clear q C m;cases t
 ·go_wp2_with fail
  go_ret
  exact⟨rfl,λ_=>d.out,λh=>(by cases h)⟩
 ·have X:l.cell? ⟨a,5,none⟩=some (.slice b L c):=(d.out.cell (p:=⟨a,5,none⟩) G).trans A.out.1;have T:Hid (l.ownsRow base 3 1 (.slice b L c) L xs):=aW V.out (aE d.out λ_=>False) λ_ _ h=>h;have g:=aj d.out.size;have R:Hid (l.frozen? ⟨a,5,none⟩=false):=by
   have i:=A.out.2;unfold World.frozen? at i ⊢;rw[d.out.block a G];exact i
  go_wp2_with (first
   | (at_builtin;refine wpList_append_lies _ rfl _ _ 44 rfl base 3 j _ 1 8 Tryz.underlying44 n.out.1 n.out.2.1 n.out.2.2.1 n.out.2.2.2 rfl (by decide) (.slice b L c) L xs rfl (T.out.alloc _) ⟨l.heap.size,0,none⟩ 1 1 [.int .i64 f] rfl rfl (World.news_of_block (cs:= #[.int .i64 f]) (t:=3) (fr:=(0,0)) (ax l _)) (by simp[Value.oneCell']) (by decide) (by unfold maxLen;omega) (by omega) (by have:=g.out;simp;omega) _ rfl ?_;intro Z Y s I o E aa;have U:=aj I;have S:=aj o;have P:=aj E;have ab:s.cell? ⟨a,5,none⟩=some (.slice b L c):=(o.cell_far ⟨a,5,none⟩ (by show a<_;have:=g.out;simp;omega) (λe=>B.out e.symm)).trans (((ak _ _).alloc (ai _) _ |>.cell (p:=⟨a,5,none⟩) (by show a<_;have:=g.out;omega)).trans X);have ad:s.frozen? ⟨a,5,none⟩=false:=(o.frozen_far ⟨a,5,none⟩ (by show a<_;have:=g.out;simp;omega) (λe=>B.out e.symm)).trans (by have i:=R.out;unfold World.frozen? at i ⊢;rw[((ak _ _).alloc (ai _) (.cells #[.int .i64 f] 3)).block a (by have:=g.out;omega)];exact i);clear I o E aa))
  go_ret
  refine⟨rfl,λh=>(by cases h),λ_=>⟨f,Z,Y,s,Q.out,U.out,?_,?_,rfl⟩⟩
  ·exact bi.trans (aE (d.out.alloc d.out.size _) _) (dP S.out) λ_ _ e=>e
  ·rcases P.out with e|e
   ·exact ae e
   ·have:=g.out;simp at e;exact af (by omega)
section
variable {P:Program} {ops:Array Oper} {Q:Exit->Act->World->Prop} {md:Region.Mode} {S:World->Prop} {X:Nat}
def js(P:Program)(md:Region.Mode)(ops:Array Oper)(Q:Exit->Act->World->Prop)(S:World->Prop)(X:Nat):Nat->Array Bool->Act->World->Prop
 | 0,listed,a,w=>Region.ready md ops listed=[]/\Q .normal a w
 | fuel+1,listed,a,w=>
  (Region.ready md ops listed=[]->Q .normal a w)/\
  ∀i∈Region.ready md ops listed,wpOp P ops Q i (λb w'=>(i≠X->S w')/\js P md ops Q S X fuel (listed.setIfInBounds i true) b w') a w
theorem uX:∀(fuel:Nat)(b:Array Bool)(a:Act)(w:World),js P md ops Q S X fuel b a w->wpAny P md ops Q fuel b a w
 | 0,_,_,_,h=>h
 | fuel+1,_,_,_,h=>⟨h.1,λi e=>wpOp_mono (λc w' d=>uX fuel _ c w' d.2) (h.2 i e)⟩
theorem yO{i:Nat}{m:Oper}{v:Value}(z:ops[i]?=some m)(G:∀(j:Nat)(o:Oper) cs b,ops[j]?=some o->o.op≠.select cs b)(L:∀c a w,Q (.panic c) (a.put m.dst v) w->Q (.panic c) a w)(M:∀d,ops[X]?=some d->∃e∈d.after,Region.binds md e=true/\e.on=i):∀(p:Nat)(f:Array Bool)(a:Act)(w:World),(∀j d,ops[j]?=some d->j≠i->f.getD j true=false->(∀e∈d.after,Region.binds md e=true->e.on≠i)->m.apart ops d=true)-> i∈Region.ready md ops f->YieldsIf P ops S m v a->S w-> js P md ops Q S X p (f.setIfInBounds i true) (a.put m.dst v) w->js P md ops Q S X (p+1) f a w:=by
 intro p
 induction p with
 | zero=>
  intro f a w _ l u q n;refine⟨λx=>(by rw[x]at l;cases l),λj s=>?_⟩;by_cases g:j=i
  ·subst g;exact u.wpOp z q ⟨λ_=>q,n⟩
  ·have:=ready_mono s g;rw[n.1]at this;cases this
 | succ p ih=>
  intro f a w B l u q n;refine⟨λx=>(by rw[x]at l;cases l),λj s=>?_⟩;by_cases g:j=i
  ·subst g;exact u.wpOp z q ⟨λ_=>q,n⟩
  ·have h:=n.2 j (ready_mono s g);obtain⟨D,d,t,N⟩:=mem_ready.1 s;have F:∀e∈d.after,Region.binds md e=true->e.on≠i:=λe T O V=>by
    have h:=N e T O;have A:=(mem_ready.1 l).1;rw[V]at h;rcases Nat.lt_or_ge i f.size with y|y
    ·simp[y]at A h;rw[A]at h;cases h
    ·simp[Array.getElem?_eq_none y]at h
   have E:j≠X:=λe=>by
    obtain⟨J,U,R,ab⟩:=M d (by rw[<-e];exact t);exact F J U R ab
   have K:=wpOp_putIf t (B j d t g D F) (λcs b=>G i m cs b z) (λcs b=>G j d cs b t) L u h
   have W:∀k ok,ops[k]?=some ok->k≠i->(f.setIfInBounds j true).getD k true=false->
     (∀e∈ok.after,Region.binds md e=true->e.on≠i)->m.apart ops ok=true:=λk ok Y Z H aa=>by
    refine B k ok Y Z ?_ aa;by_cases C:j=k
    ·subst C;exact D
    ·rw[getD_set_ne true C]at H;exact H
   refine wpOp_mono (λI ad r=>⟨λ_=>r.2.1 E,ih (f.setIfInBounds j true) I ad W (ready_mono l (Ne.symm g)) r.1 (r.2.1 E) ?_⟩) K;rw[Array.setIfInBounds_comm _ _ g];exact r.2.2
def yM(md:Region.Mode)(ops:Array Oper)(X i:Nat):Bool:=((ops[X]?).map λo=>o.after.any λe=>Region.binds md e && e.on==i).getD false
theorem Du{i:Nat}(a:yM md ops X i=true):∀b,ops[X]?=some b->∃e∈b.after,Region.binds md e=true/\e.on=i:=λb c=>by
 unfold yM at a;rw[c]at a;simp only[Option.map_some,Option.getD_some,Array.any_eq_true]at a;obtain⟨k,d,a⟩:=a;simp only[ay,b9]at a;exact⟨_,Array.getElem_mem d,a.1,a.2⟩
theorem aM{i:Nat}{d:Oper}{v:Value}{e:Nat}{b:Array Bool}{a:Act}{w:World}(f:ops[i]?=some d)(n:Region.noSelect ops=true)(k:Region.free md ops b i=true)(m:(Region.ready md ops b).contains i=true)(o:yM md ops X i=true)(h:∀c a w,Q (.panic c) (a.put d.dst v) w->Q (.panic c) a w)(l:d.guard=none)(p:∀w,S w->(execOp a.eval d).run P w=.ok (.value v) w)(j:S w)(g:js P md ops Q S X e (b.setIfInBounds i true) (a.put d.dst v) w):js P md ops Q S X (e+1) b a w:=
 yO f (Region.noSelect_spec n) h (Du o) e b a w (Region.free_spec f k) (by simpa using m) (ae ⟨by simp[Region.wanted,l],p⟩) j g
theorem cP{i:Nat}{o:Oper}{d:Nat}{c:Array Bool}{a:Act}{w:World}(h:Region.ready md ops c=[i])(n:ops[i]?=some o)(l:o.guard=none)(j:∀K:Act->World->Prop,Hid (∀b w',(i≠X->S w')->(S w'->js P md ops Q S X d (c.setIfInBounds i true) b w')->K b w')->o.wp P a w K Q)(m:i≠X):js P md ops Q S X (d+1) c a w:=by
 refine⟨λe=>(by rw[h]at e;cases e),λq g=>?_⟩;rw[h]at g;obtain rfl:q=i:=by simpa using g
 unfold wpOp;simp only[n];have p:Region.wanted o (yielded ops a.tmps)=true:=by simp[Region.wanted,l]
 simp only[p,cH];exact ae (j _ λb w' f k=>⟨f,k (f m)⟩)
theorem iY{o:Oper}{c:Nat}{d:Array Bool}{a:Act}{w:World}(i:Region.ready md ops d=[X])(m:ops[X]?=some o)(l:o.guard=none)(g:Region.ready md ops (d.setIfInBounds X true)=[])(j:∀K:Act->World->Prop,Hid (∀b w',Q .normal b w'->K b w')->o.wp P a w K Q):js P md ops Q S X (c+1) d a w:=by
 refine⟨λe=>(by rw[i]at e;cases e),λp h=>?_⟩;rw[i]at h;obtain rfl:p=X:=by simpa using h
 unfold wpOp;simp only[m];have n:Region.wanted o (yielded ops a.tmps)=true:=by simp[Region.wanted,l]
 simp only[n,cH];refine ae (j _ λb w' f=>⟨λk=>absurd rfl k,?_⟩);cases c with
 | zero=>exact⟨g,f⟩
 | succ c=>exact⟨λ_=>f,by rw[g];simp⟩
theorem iZ(S:World->Prop)(X:Nat){id:Nat}{a:Act}{w:World}(c:P.follows .mixedOrders=true)(b:js P .any ops Q S X ops.size (Array.replicate ops.size false) a w.drew):(Code.region id ops true).wp P Q a w:=
 wp_region_any c (uX _ _ _ _ b)
end
end Go.Proofs.YtckamaoibonjcaaGreat
