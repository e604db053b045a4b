/- What is proved here: plain facts and contracts that the claimed theorem stands on. No condition but those that each names. -/
import Derived.Test.YtckamaoibonjcaaGreatG11
import Derived.OrdersHeld
namespace Go.Proofs.YtckamaoibonjcaaGreat
open Go.RowKit
set_option maxRecDepth 100000
set_option maxHeartbeats 4000000
abbrev Ac(n:Nat):Type:=Int×(Tm n×Tm n)×(ByteArray×Int)
abbrev Cl(n:Nat):Type:=(Tm n×Tm n×Tm n)×(Option Addr×Nat)×List (Ac n)
abbrev Bh(n:Nat):Type:=ByteArray×(Option Addr×Nat)×List (Cl n)
def hU(n:Nat)(x:Tm n):List Value:=uF (gd n x)
def fW(n:Nat)(a:Ac n):List Value:=ab a.1::(hU n a.2.1.1++hU n a.2.1.2++ [af a.2.2.1,ab a.2.2.2])
def eK(n:Nat)(c:Cl n):List Value:=hU n c.1.1++hU n c.1.2.1++(ae c.2.1.1 c.2.2.length c.2.1.2::hU n c.1.2.2)
def oW(n:Nat)(b:Bh n):List Value:=[af b.1,ae b.2.1.1 b.2.2.length b.2.1.2]
def px{c:Type}(B:Nat)(w:World)(k:Nat)(f:c->List Value)(i:c->Prop)(a:Option Addr)(l:List c):Prop:=
 l=[]\/∃b o,a=some ⟨b,o,none⟩/\b<B/\∀(e:Nat)(d:c),l[e]?=some d->(∀(g:Nat)(h:Value),(f d)[g]?=some h->w.cell? ⟨b,o+e*k+g,none⟩=some h)/\i d
def ij(n:Nat)(B:Nat)(w:World)(a:Ac n):Prop:=dn a.1/\In B w n a.2.1.1/\In B w n a.2.1.2/\a.2.2.1.size<=maxLen/\dn a.2.2.2
def gO(n:Nat)(B:Nat)(w:World)(c:Cl n):Prop:=(In B w n c.1.1/\In B w n c.1.2.1/\In B w n c.1.2.2)/\(c.2.2.length<=c.2.1.2/\c.2.1.2<=maxLen)/\px B w 11 (fW n) (ij n B w) c.2.1.1 c.2.2
def oU(n:Nat)(B:Nat)(w:World)(b:Bh n):Prop:=b.1.size<=maxLen/\(b.2.2.length<=b.2.1.2/\b.2.1.2<=maxLen)/\px B w 13 (eK n) (gO n B w) b.2.1.1 b.2.2
def sP{c:Type}(d:c->Prop)(P:Nat->Prop)(a:Option Addr)(l:List c):Prop:=l=[]\/∃b o,a=some ⟨b,o,none⟩/\P b/\∀y∈l,d y
def lC(n:Nat)(P:Nat->Prop)(a:Ac n):Prop:=bZ P n a.2.1.1/\bZ P n a.2.1.2
def jD(n:Nat)(P:Nat->Prop)(c:Cl n):Prop:=(bZ P n c.1.1/\bZ P n c.1.2.1/\bZ P n c.1.2.2)/\sP (lC n P) P c.2.1.1 c.2.2
def jC(n:Nat)(P:Nat->Prop)(b:Bh n):Prop:=sP (jD n P) P b.2.1.1 b.2.2
def jE{f:Type}(g:Nat->World->f->Prop)(h:(Nat->Prop)->f->Prop):Prop:=
 (∀(e j:Nat->Prop)(a:f),(∀b,e b->j b)->h e a->h j a)/\(∀(e:Nat->Prop)(c:Nat)(d:World)(a:f),h e a->g c d a->h (λb=>e b/\b<c) a)/\
 (∀(e:Nat->Prop)(c:Nat)(d k:World)(a:f),(∀b,e b->k.heap[b]?=d.heap[b]?)->h e a->g c d a->g c k a)/\(∀(c i:Nat)(d:World)(a:f),c<=i->g c d a->g i d a)/\
 (∀(c:Nat)(d:World)(a:f),g c d a->h (λb=>b<c) a)
theorem ol{B:Nat}{w:World}:{n:Nat}->{x:Tm n}->In B w n x->bZ (λb=>b<B) n x
 | 0,_,k=>k
 | _+1,_,k=>by
  obtain⟨_,a⟩:=k;rcases a with a|⟨b,o,e,c,a⟩
  ·exact ah a
  ·exact ai ⟨b,o,e,c,λi y d=>ol (a i y d).2⟩
theorem dQ(n:Nat):jE (λB w x=>In B w n x) (λP x=>bZ P n x):=
 ⟨λ_ _ _ a k=>k.mono a,λ_ _ _ _ a k=>In.offB a k,λ_ _ _ _ _ a b k=>In.off a b k,λ_ _ _ _ a k=>k.mono a,λ_ _ _ k=>ol k⟩
theorem fq(n:Nat):jE (ij n) (lC n):=by
 obtain⟨i,j,l,m,o⟩:=dQ n
 exact⟨λd g e b k=>⟨i d g _ b k.1,i d g _ b k.2⟩,λd a c e b k=>⟨j d a c _ b.1 k.2.1,j d a c _ b.2 k.2.2.1⟩,
  λd a c p e b h k=>⟨k.1,l d a c p _ b h.1 k.2.1,l d a c p _ b h.2 k.2.2.1,k.2.2.2⟩,λa f c e b k=>⟨k.1,m a f c _ b k.2.1,m a f c _ b k.2.2.1,k.2.2.2⟩,
  λa c e k=>⟨o a c _ k.2.1,o a c _ k.2.2.1⟩⟩
theorem cB{r:Type}{s:Nat->World->r->Prop}{t:(Nat->Prop)->r->Prop}(d:jE s t)(k:Nat)(f:r->List Value)(a:Option Addr):jE (λB w l=>px B w k f (s B w) a l) (λP l=>sP (t P) P a l):=by
 obtain⟨C,D,E,F,G⟩:=d;refine⟨λP v n d k=>?_,λP B w n d k=>?_,λP B w I n d m k=>?_,λB u w n d k=>?_,λB w n k=>?_⟩
 ·rcases k with k|⟨b,o,g,i,k⟩
  ·exact ah k
  ·exact ai ⟨b,o,g,d b i,λc e=>C P v c d (k c e)⟩
 ·rcases k with k|⟨b,o,g,i,k⟩
  ·exact ah k
  ·rcases d with d|⟨x,A,j,p,d⟩
   ·exact ah d
   ·rw[g]at j;simp at j;obtain⟨rfl,rfl⟩:=j;refine ai ⟨b,o,g,⟨p,i⟩,λc e=>?_⟩;obtain⟨h,q⟩:=cO e;exact D P B w c (d c e) (k h c q).2
 ·rcases k with k|⟨b,o,g,i,k⟩
  ·exact ah k
  ·rcases m with m|⟨x,A,j,p,m⟩
   ·exact ah m
   ·rw[g]at j;simp at j;obtain⟨rfl,rfl⟩:=j;exact ai ⟨b,o,g,i,λh c e=>⟨λz H y=>(bt (d b p) _).trans ((k h c e).1 z H y),E P B w I c d (m c (aG e)) (k h c e).2⟩⟩
 ·rcases k with k|⟨b,o,g,i,k⟩
  ·exact ah k
  ·exact ai ⟨b,o,g,by omega,λh c e=>⟨(k h c e).1,F B u w c d (k h c e).2⟩⟩
 ·rcases k with k|⟨b,o,g,i,k⟩
  ·exact ah k
  ·refine ai ⟨b,o,g,i,λc e=>?_⟩;obtain⟨h,q⟩:=cO e;exact G B w c (k h c q).2
theorem dX(n:Nat):jE (gO n) (jD n):=by
 obtain⟨l,m,o,p,q⟩:=dQ n;have e:=λr=>cB (fq n) 11 (fW n) r
 exact⟨λd g j b k=>⟨⟨l d g _ b k.1.1,l d g _ b k.1.2.1,l d g _ b k.1.2.2⟩,(e _).1 d g _ b k.2⟩,
  λd a c j b k=>⟨⟨m d a c _ b.1.1 k.1.1,m d a c _ b.1.2.1 k.1.2.1,m d a c _ b.1.2.2 k.1.2.2⟩,(e _).2.1 d a c _ b.2 k.2.2⟩,
  λd a c i j b h k=>⟨⟨o d a c i _ b h.1.1 k.1.1,o d a c i _ b h.1.2.1 k.1.2.1,o d a c i _ b h.1.2.2 k.1.2.2⟩,k.2.1,(e _).2.2.1 d a c i _ b h.2 k.2.2⟩,
  λa f c j b k=>⟨⟨p a f c _ b k.1.1,p a f c _ b k.1.2.1,p a f c _ b k.1.2.2⟩,k.2.1,(e _).2.2.2.1 a f c _ b k.2.2⟩,
  λa c j k=>⟨⟨q a c _ k.1.1,q a c _ k.1.2.1,q a c _ k.1.2.2⟩,(e _).2.2.2.2 a c _ k.2.2⟩⟩
theorem dN(n:Nat):jE (oU n) (jC n):=by
 have d:=λi=>cB (dX n) 13 (eK n) i
 exact⟨λe h f b k=>(d _).1 e h _ b k,λe a c f b k=>(d _).2.1 e a c _ b k.2.2,λe a c l f b j k=>⟨k.1,k.2.1,(d _).2.2.1 e a c l _ b j k.2.2⟩,
  λa g c f b k=>⟨k.1,k.2.1,(d _).2.2.2.1 a g c _ b k.2.2⟩,λa c f k=>(d _).2.2.2.2 a c _ k.2.2⟩
def gP(n:Nat)(B:Nat)(w:World)(a:Option Addr)(l:List (Bh n)):Prop:=px B w 2 (oW n) (oU n B w) a l
theorem jE.below{c:Type}{a:Nat->World->c->Prop}{e:(Nat->Prop)->c->Prop}(d:jE a e){B:Nat}{w w':World}(f:Below B w w'){x:c}(k:a B w x):a B w' x:=
 d.2.2.1 (λb=>b<B) B w w' x (λb g=>f.block b g) (d.2.2.2.2 B w x k) k
theorem jE.mono{b:Type}{a:Nat->World->b->Prop}{c:(Nat->Prop)->b->Prop}(d:jE a c){B C:Nat}(e:B<=C){w:World}{x:b}(k:a B w x):a C w x:=d.2.2.2.1 B C w x e k
theorem gP.below{n B:Nat}{w w':World}{a:Option Addr}{l:List (Bh n)}(b:Below B w w')(k:gP n B w a l):gP n B w' a l:=(cB (dN n) 2 (oW n) a).below b k
theorem gP.mono{n B C:Nat}(b:B<=C){w:World}{a:Option Addr}{l:List (Bh n)}(k:gP n B w a l):gP n C w a l:=(cB (dN n) 2 (oW n) a).mono b k
def eR{a:Type}(d:Nat->World->a->Prop)(e:(Nat->Prop)->a->Prop)(f:a->List Value)(k:Nat)(T:TypeId)(B base:Nat)(xs:List a)(v:Value)(w0 wr:World):Prop:=
 Below base w0 wr/\wr.ownsRow base T k v xs.length (xs.flatMap f)/\∀c∈xs,d wr.heap.size wr c/\e (λb=>(b<B\/base<=b)/\v.ownBlock≠some b) c
theorem eR.nil{a:Type}{b:Nat->World->a->Prop}{c:(Nat->Prop)->a->Prop}{f:a->List Value}{k:Nat}{T:TypeId}{B base:Nat}(w:World):eR b c f k T B base [] (ae none 0 0) w w:=
 ⟨ap _ _,en _ _ _ _,λe d=>by cases d⟩
theorem eR.later{b:Type}{c:Nat->World->b->Prop}{d:(Nat->Prop)->b->Prop}(e:jE c d){f:b->List Value}{k:Nat}{T:TypeId}{B base:Nat}{xs:List b}{v:Value}{w0 wr w1:World}(j:eR c d f k T B base xs v w0 wr)(l:base<=wr.heap.size)(a:aj wr w1):eR c d f k T B base xs v w0 w1:=by
 obtain⟨m,n,h⟩:=j;exact⟨m.trans (a.mono l),dJ n a,λi g=>⟨e.mono a.size (e.below a (h i g).1),(h i g).2⟩⟩
theorem eR.step{q:Type}{r:Nat->World->q->Prop}{s:(Nat->Prop)->q->Prop}(e:jE r s){f:q->List Value}{k:Nat}{T:TypeId}{B base:Nat}{xs:List q}{v:Value}{w0 wr w1 w2:World}(D:eR r s f k T B base xs v w0 wr)(L:B<=base)(y:base<=wr.heap.size)(j:aj wr w1)(h:q)(w:r w1.heap.size w1 h)(F:s (λb=>b<B\/wr.heap.size<=b) h){g c:Nat}(H:w2.ownsRow base T k (ae (some ⟨g,0,none⟩) (xs.length+1) c) (xs.length+1) (xs.flatMap f++f h))(m:w1.grownBy w2 v.ownBlock)(x:v.ownBlock=some g\/g=w1.heap.size):eR r s f k T B base (xs++ [h]) (ae (some ⟨g,0,none⟩) (xs.length+1) c) w0 w2:=by
 obtain⟨o,J,K⟩:=D;have u:∀b,v.ownBlock=some b->base<=b/\b<wr.heap.size:=λb d=>J.lt b d;have t:∀b,b<w1.heap.size->v.ownBlock≠some b->w2.heap[b]?=w1.heap[b]? :=λb y G=>m.block b y (λd=>G d.symm);have E:=j.size;have z:=m.size;refine⟨⟨(m.os.trans j.os).trans o.os,(m.tape.trans j.tape).trans o.tape,(m.output.trans j.output).trans o.output,by have:=o.size;omega,λb a=>?_⟩,?_,?_⟩
 ·exact(t b (by omega) (λd=>by have:=(u b d).1;omega)).trans ((j.block b (by omega)).trans (o.block b a))
 ·have C:(xs++ [h]).length=xs.length+1:=by simp
  have i:(xs++ [h]).flatMap f=xs.flatMap f++f h:=by simp
  rw[C,i];exact H
 ·intro p l;rcases cR.1 l with l|l
  ·obtain⟨A,I⟩:=K p l;have n:=e.2.1 _ _ _ _ I A;refine⟨e.mono z (e.2.2.1 _ _ w1 w2 p (λb a=>t b ?_ a.1.2) n (e.mono E (e.below j A))),e.1 _ _ p (λb a=>⟨a.1.1,?_⟩) n⟩
   ·have:=a.2;omega
   ·simp only[Value.ownBlock];intro d;injection d with d;rcases x with i|i
    ·exact a.1.2 (by rw[i,d])
    ·have:=a.2;omega
  ·simp only[de]at l;subst l;have n:=e.2.1 _ _ _ _ F w;refine⟨e.mono z (e.2.2.1 _ _ w1 w2 p (λb a=>t b a.2 (λd=>?_)) n w),e.1 _ _ p (λb a=>⟨?_,?_⟩) n⟩
   ·have:=u b d;have:=a.1;omega
   ·have:=a.1;omega
   ·simp only[Value.ownBlock];intro d;injection d with d;rcases x with i|i
    ·have:=u g i;have:=a.1;omega
    ·have:=a.2;omega
theorem eR.lit{d:Type}{e:Nat->World->d->Prop}{g:(Nat->Prop)->d->Prop}(a:jE e g){f:d->List Value}{k:Nat}{T:TypeId}{B base:Nat}(xs:List d){w0 w1:World}{cs:Array Value}(i:cs.toList=xs.flatMap f)(r:∀x,(f x).length=k)(p:xs.length<=maxLen)(m:base<=w1.heap.size)(q:Below base w0 w1)(c:∀y∈xs,e w1.heap.size w1 y/\g (λb=>b<B\/base<=b) y):eR e g f k T B base xs (ae (some ⟨w1.heap.size,0,none⟩) xs.length xs.length) w0 (w1.alloc (.cells cs T)):=by
 have h:aj w1 (w1.alloc (.cells cs T)):=(ap _ _).alloc (ak _) _;have o:(xs.flatMap f).length=xs.length*k:=by
  clear i c p
  induction xs with
  | nil=>simp
  | cons x xs ih=>rw[bB,bj,ih,r,aZ,Nat.succ_mul];omega
 have s:cs.size=xs.length*k:=by rw[<-o,<-i];simp
 refine⟨q.trans (h.mono m),⟨by rw[o],ai ⟨w1.heap.size,xs.length,cs,rfl,m,aB w1 _,ak _,p,by omega,?_⟩⟩,λy j=>⟨a.mono h.size (a.below h (c y j).1),?_⟩⟩
 ·rw[i,bC (by omega)]
 ·refine a.1 _ _ y (λb n=>⟨n.1,?_⟩) (a.2.1 _ _ _ _ (c y j).2 (c y j).1);simp only[Value.ownBlock];intro l;injection l with l;have:=n.2;omega
theorem eR.lay{m:Type}{p:Nat->World->m->Prop}{q:(Nat->Prop)->m->Prop}(y:jE p q){f:m->List Value}{k:Nat}{T:TypeId}{B base:Nat}{xs:List m}{v:Value}{w0 wr:World}(u:∀x,(f x).length=k)(h:eR p q f k T B base xs v w0 wr):∃a c,v=ae a xs.length c/\(xs.length<=c/\c<=maxLen)/\px wr.heap.size wr k f (p wr.heap.size wr) a xs/\sP (q (λb=>b<B\/base<=b)) (λb=>b<B\/base<=b) a xs:=by
 obtain⟨M,H,w⟩:=h;rcases H.2 with⟨r,J⟩|⟨s,cap,I,r,E,t,C,F,L,D⟩
 ·have G:xs=[]:=bH (by omega);subst G;exact⟨none,0,r,⟨ak _,aE _⟩,ah rfl,ah rfl⟩
 ·refine⟨some ⟨s,0,none⟩,cap,r,⟨C,F⟩,ai ⟨s,0,rfl,(aD.1 t).1,λd e o=>⟨λg j n=>?_,(w e (aG o)).1⟩⟩,ai ⟨s,0,rfl,ai E,λe o=>y.1 _ _ e (λb A=>A.1) (w e o).2⟩⟩;have z:∀(l:List m)(d g:Nat)(e:m)(j:Value),l[d]?=some e->(f e)[g]?=some j->(l.flatMap f)[d*k+g]?=some j:=by
   intro l
   induction l with
   | nil=>intro d g e j h;simp at h
   | cons x l ih=>
    intro d g e j h n;rw[bB];cases d with
    | zero=>
     simp at h;subst h;rw[dk (by have:=(aR.1 n).1;omega)];simpa using n
    | succ d=>
     rw[ei (by rw[u,Nat.succ_mul];omega),u,Nat.succ_mul,show d*k+k+g-k=d*k+g by omega];exact ih d g e j (by simpa using h) n
  have i:=z xs d g e j o n;have K:=(aR.1 i).1;rw[<-D]at i;rw[ko]at i;split at i
  ·rw[cT];simp only[World.cell?,t];rw[mg]at i;simpa using i
  ·cases i
def G6(i:Option (List An))(f:List An->Option (List An))(w:World)(e:Ending)(w':World):Prop:=
 ∃h len c d,e=.returned (.tuple #[ae h len c,.bool d])/\Hid (aj w w'/\(i=none->d=false)/\∀b,i=some b->∃g:List (Tm (mC b)),aC (λk m=>ax (mC b) k (mC b) m) g (BE b)=true/\(f (ns (mC b) g)=none->d=false)/\
  ∀a,f (ns (mC b) g)=some a->d=true/\len=4/\a.length=4/\∃j l,w.heap.size<=j.heap.size/\gD (mC a) (BE a) j w' h c l)
theorem C3(g h j k v x s0 s1 K t1:Int)(i m y q t2:ByteArray)(pa n z sa L t:Option Addr)(pl pc p o B A sl sc N M cl u:Nat)(S:Option (List An))(f:List An->Option (List An))(w:World)(Y:Hid (∀E W,aj w E->gD 1 (List.replicate 4 eT) E W (some ⟨E.heap.size,0,none⟩) 4 (List.replicate 4 eT)->am 136 #[.agg #[ab g,ab h,af i,ae pa pl pc],.agg #[ab s0,ab s1,af q,ae sa sl sc],ae (some ⟨E.heap.size,0,none⟩) 4 4] W (xx 0 S W)))(aD:Hid (∀(b:List An)(l:List (Tm (mC b)))(a:Option Addr)(c:Nat)(E W:World),aj w W->S=some b->b.length=4->gD (mC b) (BE b) E W a c l->am 136 #[.agg #[ab j,ab k,af m,ae n p o],.agg #[ab K,ab t1,af t2,ae L N M],ae a 4 c] W (xx 0 (f (ns (mC b) l)) W))):am 101 #[.agg #[ab g,ab h,af i,ae pa pl pc,ab j,ab k,af m,ae n p o,ae t cl u,ab v,ab x,af y,ae z B A],.agg #[ab s0,ab s1,af q,ae sa sl sc],.agg #[ab K,ab t1,af t2,ae L N M]] w (G6 S f w):=by
 go_enter Tryz.func101,Tryz.ntmps101;go_wp2_with fail;have Z:Hid (∃s d e F,(s=((w.alloc (.cells #[ab g,ab h,af i,ae pa pl pc,ab j,ab k,af m,ae n p o,ae t cl u,ab v,ab x,af y,ae z B A] 147)).alloc (.cells #[ab s0,ab s1,af q,ae sa sl sc] 30)).alloc (.cells #[ab K,ab t1,af t2,ae L N M] 30)/\d=w.heap.size/\e=w.heap.size+1/\F=w.heap.size+2)/\aj w s/\∀W,aj s W->(W.cell? ⟨d,0,none⟩=some (ab g)/\W.cell? ⟨d,1,none⟩=some (ab h)/\W.cell? ⟨d,2,none⟩=some (af i)/\W.cell? ⟨d,3,none⟩=some (ae pa pl pc))/\(W.cell? ⟨d,4,none⟩=some (ab j)/\W.cell? ⟨d,5,none⟩=some (ab k)/\W.cell? ⟨d,6,none⟩=some (af m)/\W.cell? ⟨d,7,none⟩=some (ae n p o))/\(W.cell? ⟨e,0,none⟩=some (ab s0)/\W.cell? ⟨e,1,none⟩=some (ab s1)/\W.cell? ⟨e,2,none⟩=some (af q)/\W.cell? ⟨e,3,none⟩=some (ae sa sl sc))/\(W.cell? ⟨F,0,none⟩=some (ab K)/\W.cell? ⟨F,1,none⟩=some (ab t1)/\W.cell? ⟨F,2,none⟩=some (af t2)/\W.cell? ⟨F,3,none⟩=some (ae L N M))):=by
  have aS:(w.alloc (.cells #[ab g,ab h,af i,ae pa pl pc,ab j,ab k,af m,ae n p o,ae t cl u,ab v,ab x,af y,ae z B A] 147)).heap.size=w.heap.size+1:=by simp
  have aT:((w.alloc (.cells #[ab g,ab h,af i,ae pa pl pc,ab j,ab k,af m,ae n p o,ae t cl u,ab v,ab x,af y,ae z B A] 147)).alloc (.cells #[ab s0,ab s1,af q,ae sa sl sc] 30)).heap.size=w.heap.size+2:=by simp
  refine⟨_,_,_,_,⟨rfl,rfl,rfl,rfl⟩,(((ap _ _).alloc (ak _) _).alloc (by simp) _).alloc (by simp;omega) _,λW G=>?_⟩;have r:=(G.block w.heap.size (by simp;omega)).trans ((((ap _ _).alloc (ak _) _).block w.heap.size (by simp;omega)).trans ((((ap _ _).alloc (ak _) _).block w.heap.size (by simp)).trans (aB w (.cells #[ab g,ab h,af i,ae pa pl pc,ab j,ab k,af m,ae n p o,ae t cl u,ab v,ab x,af y,ae z B A] 147))));have ar:=aB (w.alloc (.cells #[ab g,ab h,af i,ae pa pl pc,ab j,ab k,af m,ae n p o,ae t cl u,ab v,ab x,af y,ae z B A] 147)) (.cells #[ab s0,ab s1,af q,ae sa sl sc] 30);rw[aS]at ar;have Q:=(G.block (w.heap.size+1) (by simp)).trans ((((ap _ _).alloc (ak _) _).block (w.heap.size+1) (by simp)).trans ar);have au:=aB ((w.alloc (.cells #[ab g,ab h,af i,ae pa pl pc,ab j,ab k,af m,ae n p o,ae t cl u,ab v,ab x,af y,ae z B A] 147)).alloc (.cells #[ab s0,ab s1,af q,ae sa sl sc] 30)) (.cells #[ab K,ab t1,af t2,ae L N M] 30);rw[aT]at au;have R:=(G.block (w.heap.size+2) (by simp)).trans au;exact⟨⟨ag r 0,ag r 1,ag r 2,ag r 3⟩,⟨ag r 4,ag r 5,ag r 6,ag r 7⟩,⟨ag Q 0,ag Q 1,ag Q 2,ag Q 3⟩,ag R 0,ag R 1,ag R 2,ag R 3⟩
 obtain⟨s,d,e,F,⟨an,ah,ai,al⟩,C,D⟩:=Z.out;rw[<-an,<-al,<-ai,<-ah];replace C:=ao C;replace D:=ao D;clear an ah ai al Z;obtain⟨⟨aw,ax,az,aA⟩,_,⟨y0,y1,y2,aC⟩,_⟩:=D.out s (ap _ _);have I:Hid (aj s s.drew):=(ap _ _).drew;have P:Hid (∀W,aj s W->(W.cell? ⟨d,0,none⟩=some (ab g)/\W.cell? ⟨d,1,none⟩=some (ab h)/\W.cell? ⟨d,2,none⟩=some (af i)/\W.cell? ⟨d,3,none⟩=some (ae pa pl pc))/\(W.cell? ⟨e,0,none⟩=some (ab s0)/\W.cell? ⟨e,1,none⟩=some (ab s1)/\W.cell? ⟨e,2,none⟩=some (af q)/\W.cell? ⟨e,3,none⟩=some (ae sa sl sc))):=λW G=>⟨(D.out W G).1,(D.out W G).2.2.1⟩
 go_region_held3 (λW=>(W.cell? ⟨d,0,none⟩=some (ab g)/\W.cell? ⟨d,1,none⟩=some (ab h)/\W.cell? ⟨d,2,none⟩=some (af i)/\W.cell? ⟨d,3,none⟩=some (ae pa pl pc))/\(W.cell? ⟨e,0,none⟩=some (ab s0)/\W.cell? ⟨e,1,none⟩=some (ab s1)/\W.cell? ⟨e,2,none⟩=some (af q)/\W.cell? ⟨e,3,none⟩=some (ae sa sl sc)))
  (first|(go_keep;done)|exact P.out _ I.out|exact P.out _ T.out|exact P.out _ O.out) ((first
   | (go_at_call 137;refine(AL _).mono ?_;rintro aa a7 ⟨rfl,V⟩;have O:=ao (I.out.trans (V.out.1.mono I.out.size)))
   | (go_at_call 136;refine(Y.out _ _ (C.out.trans (I.out.mono C.out.size)) V.out).mono ?_;rintro aa av ⟨aG,aZ,aJ,a2,rfl,J⟩;have T:=ao (O.out.trans (J.out.1.mono O.out.size)))))
 have H:=ao (C.out.trans (T.out.mono C.out.size));clear aw ax az aA y0 y1 y2 aC P V O I Y;cases S with
 | none=>
  obtain⟨rfl,rfl⟩:aZ=0/\a2=false:=J.out.2.1 (by simp);clear J;go_wp2_with fail
  go_ret2
  exact⟨none,0,0,false,rfl,H.out,λ_=>rfl,λb aM=>by cases aM⟩
 | some b=>
  obtain⟨aR,aP,ad,a4,aq,aU,X⟩:=J.out.2.2 b trivial rfl;subst aR aP;have aF:=ao (aD.out b aq aG aJ a4 av H.out rfl ad X);have aE:=ao X.2.2.2.2.1;obtain⟨_,⟨aw,ax,az,aA⟩,_,y0,y1,y2,aC⟩:=D.out av T.out;clear X J ad aU;go_wp2_with fail;refine aF.out.mono ?_;rintro aa a8 ⟨aH,a0,aK,a3,rfl,U⟩;go_wp2_with fail
  go_ret2
  refine⟨aH,a0,aK,a3,rfl,H.out.trans (U.out.1.mono H.out.size),(λaL=>by cases aL),λa6 aN=>?_⟩;cases aN;refine⟨aq,aE.out,λaQ=>(U.out.2.1 (by simp[aQ])).2,λaI aO=>?_⟩;obtain⟨aV,aW,aX,a5,a1,aY,kc⟩:=U.out.2.2 aI trivial aO;exact⟨aV,aW,aX,a5,a1,ay H.out.size aY,kc⟩
theorem KF{n:Nat}{p l:List (Tm n)}{w w':World}{a:Option Addr}{c:Nat}(i:gD n p w w' a c l):fp w'.heap.size w' n l a:=by
 obtain⟨_,_,_,_,_,k⟩:=i;rcases k with d|⟨b,o,d,_,j,e⟩
 ·exact ah d
 ·exact ai ⟨b,o,d,j,λg h f=>⟨(e g h f).1,(e g h f).2.1⟩⟩
theorem qL{y:An}(a:BY y):az y:=aL.2 (bw.1 a.1).1
theorem B5:∀y∈ns 1 (List.replicate 4 eT),BY y:=by
 intro y a;simp only[ns,ci,List.mem_replicate]at a;obtain⟨b,⟨_,rfl⟩,rfl⟩:=a;exact⟨xJ,ah rfl⟩
theorem eN{n:Nat}{x:Tm n}(a:bu n x=0):(aw n x).length<=2097152:=ay (nz a) (by omega)
theorem Ga(n m k:Nat)(c:Cl (n+1))(s:Tm (m+1))(t:Tm (k+1))(B:Nat)(w:World)(C:gO (n+1) B w c)(K:In B w (m+1) s)(L:In B w (k+1) t)(a:B<=w.heap.size)(u:bu (n+1) c.1.1=0)(v:bu (n+1) c.1.2.1=0)(p:bu (m+1) s=0)(x:jM (m+1) s=true)(y:bu (k+1) t=0)(H:jM (k+1) t=true):am 101 #[.agg (eK (n+1) c).toArray,dj (m+1) s,dj (k+1) t] w (G6 (gQ (n+1) c.1.1 (m+1) s (ns 1 (List.replicate 4 eT))) (gQ (n+1) c.1.2.1 (k+1) t) w):=by
 refine C3 c.1.1.1.1 c.1.1.1.2.1 c.1.2.1.1.1 c.1.2.1.1.2.1 c.1.2.2.1.1 c.1.2.2.1.2.1 s.1.1 s.1.2.1 t.1.1 t.1.2.1 c.1.1.1.2.2 c.1.2.1.1.2.2 c.1.2.2.1.2.2 s.1.2.2 t.1.2.2 c.1.1.2.1.1 c.1.2.1.2.1.1 c.1.2.2.2.1.1 s.2.1.1 t.2.1.1 c.2.1.1
  c.1.1.2.2.length c.1.1.2.1.2 c.1.2.1.2.2.length c.1.2.1.2.1.2 c.1.2.2.2.2.length c.1.2.2.2.1.2 s.2.2.length s.2.1.2 t.2.2.length t.2.1.2 c.2.2.length c.2.1.2 _ _ w ?_ ?_
 ·intro r d z i;have h:=z.trans (i.1.mono z.size)
  have e:=wk (n+1) (m+1) 1 c.1.1 s (List.replicate 4 eT) (some ⟨r.heap.size,0,none⟩) 4 d.heap.size d ((C.1.1.below (h.mono a)).mono (ay a h.size)) ((K.below (h.mono a)).mono (ay a h.size)) (KF i) (ak _) (eN u) (eN p) (λj f=>by
   rw[(List.mem_replicate.1 f).2]
   exact eN xJ) (by simp)
  have o:sS (bu (n+1) c.1.1) (bu (m+1) s) (jM (m+1) s) (fY 1 (List.replicate 4 eT))=0:=by
   rw[u,p,x,Hm];rfl
  rw[o]at e;exact e
 ·intro b l E F r d g J G i;have q:=kD BY nK (n+1) c.1.1 (m+1) s ⟨p,ai (by rw[eY];exact x)⟩ (ns 1 (List.replicate 4 eT)) b ⟨by simp[ns],B5⟩ J;obtain⟨I,D,M,N⟩:=D9 i (λj f=>qL (q.2 j f)) G;have A:=xf q.2 D q.1 M;have e:=wk (n+1) (k+1) (mC b) c.1.2.1 t l E F d.heap.size d ((C.1.2.1.below (g.mono a)).mono (ay a g.size)) ((L.below (g.mono a)).mono (ay a g.size)) I (ak _) (eN v) (eN y) (λj f=>eN ((gU A).2 j f).1) (by omega);have o:sS (bu (n+1) c.1.2.1) (bu (k+1) t) (jM (k+1) t) (fY (mC b) l)=0:=by
   rw[v,y,H,A];rfl
  rw[o,D]at e;exact e
def vP(N:Nat)(o:Option (Tm (N+1)))(w:World)(e:Ending)(w':World):Prop:=
 ∃a:Tm (N+1),e=.returned (.tuple #[.agg #[ab a.1.1,ab a.1.2.1,af a.1.2.2,ae a.2.1.1 a.2.2.length a.2.1.2],.bool o.isSome])/\Hid (aj w w'/\In w'.heap.size w' (N+1) a/\bZ (λb=>w.heap.size<=b) (N+1) a/\ax (N+1) a (N+1) (o.getD (vq N))=true)
theorem Jq{N:Nat}{E:Int}{o:Option (Tm N)}:(Ez E (nu E o)==0)=(nu E o).isSome:=by
 unfold Ez;by_cases a:E=0
 ·rw[if_pos a];cases (nu E o).isSome<;>simp
 ·rw[if_neg a];have:nu E o=none:=by unfold nu;rw[if_neg a]
  rw[this];simp[a]
theorem BF{N:Nat}(y:Tm (N+1)):dj (N+1) y=.agg #[ab y.1.1,ab y.1.2.1,af y.1.2.2,ae y.2.1.1 y.2.2.length y.2.1.2]:=rfl
theorem Kd{w w':World}{t:TypeId}{v0 v1 v2 v3:Value}(b:Below (w.alloc (.cells #[v0,v1,v2,v3] t)).drew.heap.size (w.alloc (.cells #[v0,v1,v2,v3] t)).drew w'):w'.cell? ⟨w.heap.size,0,none⟩=some v0/\w'.cell? ⟨w.heap.size,1,none⟩=some v1/\w'.cell? ⟨w.heap.size,2,none⟩=some v2/\w'.cell? ⟨w.heap.size,3,none⟩=some v3/\w'.frozen? ⟨w.heap.size,0,none⟩=false/\w'.frozen? ⟨w.heap.size,1,none⟩=false/\w'.frozen? ⟨w.heap.size,2,none⟩=false/\w'.frozen? ⟨w.heap.size,3,none⟩=false:=by
 have a:=(b.block w.heap.size (by simp[World.drew])).trans (aB w (.cells #[v0,v1,v2,v3] t));exact⟨ag a 0,ag a 1,ag a 2,ag a 3,by simp[World.frozen?,a],by simp[World.frozen?,a],by simp[World.frozen?,a],by simp[World.frozen?,a]⟩
theorem MG{w w':World}{t:TypeId}{v0 v1 v2 v3:Value}(a:Below (w.alloc (.cells #[v0,v1,v2,v3] t)).drew.heap.size (w.alloc (.cells #[v0,v1,v2,v3] t)).drew w'):w'.heap[w.heap.size]?=some (.cells #[v0,v1,v2,v3] t):=
 (a.block w.heap.size (by simp[World.drew])).trans (aB w (.cells #[v0,v1,v2,v3] t))
theorem rP{w:World}{g:Nat}{t:TypeId}{b c d e:Value}(a:w.heap[g]?=some (.cells #[b,c,d,e] t))(v0 v1 v2 v3:Value):(cJ w g 0 v0 v1 v2 v3).heap[g]?=some (.cells #[v0,v1,v2,v3] t):=by
 simp[cJ,World.setCell,bG,a]
def vO(N:Nat)(y:Tm (N+1))(w0:World)(q p:Nat)(w2 b:World):Prop:=
 aj w0 b/\b.heap[p]?=some (.cells #[ab y.1.1,ab y.1.2.1,af y.1.2.2,ae y.2.1.1 y.2.2.length y.2.1.2] 30)/\p≠q/\(∀a,a<w2.heap.size->a≠p->b.heap[a]?=w2.heap[a]?)/\bZ (λa=>w0.heap.size<=a/\a<w2.heap.size/\a≠p) (N+1) y
theorem vO.cells{N:Nat}{y:Tm (N+1)}{w0 w2 a:World}{q p:Nat}(c:vO N y w0 q p w2 a)(d:q<w0.heap.size){t:TypeId}{v0 v1 v2 v3:Value}(e:w0.heap[q]?=some (.cells #[v0,v1,v2,v3] t)):(a.cell? ⟨p,0,none⟩=some (ab y.1.1)/\a.cell? ⟨p,1,none⟩=some (ab y.1.2.1)/\a.cell? ⟨p,2,none⟩=some (af y.1.2.2)/\a.cell? ⟨p,3,none⟩=some (ae y.2.1.1 y.2.2.length y.2.1.2))/\ (a.cell? ⟨q,0,none⟩=some v0/\a.cell? ⟨q,1,none⟩=some v1/\a.cell? ⟨q,2,none⟩=some v2/\a.cell? ⟨q,3,none⟩=some v3)/\a.frozen? ⟨q,0,none⟩=false/\a.frozen? ⟨q,1,none⟩=false/\a.frozen? ⟨q,2,none⟩=false/\a.frozen? ⟨q,3,none⟩=false/\p≠q:=by
 have b:=(c.1.block q d).trans e;exact⟨⟨ag c.2.1 0,ag c.2.1 1,ag c.2.1 2,ag c.2.1 3⟩,⟨ag b 0,ag b 1,ag b 2,ag b 3⟩,by simp[World.frozen?,b],by simp[World.frozen?,b],by simp[World.frozen?,b],by simp[World.frozen?,b],c.2.2.1⟩
theorem vO.close{N:Nat}{y:Tm (N+1)}{E:Int}{o:Option (Tm (N+1))}{w w0 w2 d:World}{q p:Nat}(f:vO N y w0 q p w2 d)(b:aj w w0)(k:w.heap.size<=q)(t:q<w0.heap.size)(j:In w2.heap.size w2 (N+1) y)(l:ax (N+1) y (N+1) ((nu E o).getD (vq N))=true){v0 v1 v2 v3:Value}(m:w2.heap.size<=d.heap.size):vP N (nu E o) w (.returned (.tuple #[.agg #[ab y.1.1,ab y.1.2.1,af y.1.2.2,ae y.2.1.1 y.2.2.length y.2.1.2],.bool (Ez E (nu E o)==0)])) (cJ d q 0 v0 v1 v2 v3):=by
 obtain⟨g,n,r,h,e⟩:=f;have i:=b.trans (g.mono b.size);have s:=b.size;refine⟨y,by rw[Jq],cW i k _ _ _ _,?_,e.mono λa c=>by omega,l⟩;rw[bm];exact(In.off (P:=λa=>w0.heap.size<=a/\a<w2.heap.size/\a≠p) (λa c=>(aV (by omega) _ _ _ _).trans (h a c.2.1 c.2.2)) e j).mono m
theorem xV(N:Nat)(E:Int)(o:Option (Tm (N+1)))(r s:Int)(t:ByteArray)(xa:Option Addr)(u xc:Nat)(a:Option Addr)(c:Nat)(self:Int)(f:Nat)(w:World)(aq:f<w.heap.size)(C:w.cell? ⟨f,0,none⟩=some (ae a 4 c))(d1:w.cell? ⟨f,1,none⟩=some (ab self))(K:Hid (∀W,aj w W->am 139 #[.agg #[ab r,ab s,af t,ae xa u xc],ae a 4 c,ab self] W (zq N E o W))):am 103 #[aF f,.agg #[ab r,ab s,af t,ae xa u xc]] w (vP N (nu E o) w):=by
 have Y:Hid (∃d g y,(d=(w.alloc (.cells #[ab r,ab s,af t,ae xa u xc] 30)).alloc (.cells #[ab 0,ab 0,af ⟨#[]⟩,ae none 0 0] 30)/\g=w.heap.size/\y=w.heap.size+1)/\(g<d.heap.size/\f<d.heap.size/\y<d.heap.size/\w.heap.size<=y)/\aj w d/\d.heap[y]?=some (.cells #[ab 0,ab 0,af ⟨#[]⟩,ae none 0 0] 30)/\∀W,aj d W->(W.cell? ⟨g,0,none⟩=some (ab r)/\W.cell? ⟨g,1,none⟩=some (ab s)/\W.cell? ⟨g,2,none⟩=some (af t)/\W.cell? ⟨g,3,none⟩=some (ae xa u xc))/\W.cell? ⟨f,0,none⟩=some (ae a 4 c)/\W.cell? ⟨f,1,none⟩=some (ab self)):=by
  have an:aj w ((w.alloc (.cells #[ab r,ab s,af t,ae xa u xc] 30)).alloc (.cells #[ab 0,ab 0,af ⟨#[]⟩,ae none 0 0] 30)):=((ap _ _).alloc (ak _) _).alloc (by simp) _;have ax:=aB (w.alloc (.cells #[ab r,ab s,af t,ae xa u xc] 30)) (.cells #[ab 0,ab 0,af ⟨#[]⟩,ae none 0 0] 30);rw[gM]at ax;refine⟨_,_,_,⟨rfl,rfl,rfl⟩,⟨by simp;omega,by simp;omega,by simp,by omega⟩,an,ax,λW ai=>?_⟩;have L:=(ai.block w.heap.size (by simp;omega)).trans ((((ap _ _).alloc (ak _) _).block w.heap.size (by simp)).trans (aB w (.cells #[ab r,ab s,af t,ae xa u xc] 30)));have al:aj w W:=an.trans (ai.mono (by simp;omega));exact⟨⟨ag L 0,ag L 1,ag L 2,ag L 3⟩,(al.cell (p:=⟨f,0,none⟩) aq).trans C,(al.cell (p:=⟨f,1,none⟩) aq).trans d1⟩
 go_enter Tryz.func103,Tryz.ntmps103;go_wp2_with fail;obtain⟨d,g,y,⟨aw,ar,au⟩,i,n,J,h⟩:=Y.out;rw[<-aw,<-au,<-ar];replace i:=ao i;replace n:=ao n;replace J:=ao J;replace h:=ao h;clear aw ar au Y C d1;obtain⟨⟨Z,aa,ad,ah⟩,C,d1⟩:=h.out d (ap _ _);have x:Hid (aj d d.drew):=(ap _ _).drew;have z:Hid (∀o:Obj,aj d (d.alloc o).drew):=λo=>((ap _ _).alloc (ak _) o).drew;have O:Hid (∀o:Obj,aj w (d.alloc o).drew):=λo=>n.out.trans ((z.out o).mono n.out.size);have P:=ao (n.out.trans (x.out.mono n.out.size))
 go_region_held3 (λW=>(W.cell? ⟨g,0,none⟩=some (ab r)/\W.cell? ⟨g,1,none⟩=some (ab s)/\W.cell? ⟨g,2,none⟩=some (af t)/\W.cell? ⟨g,3,none⟩=some (ae xa u xc))/\W.cell? ⟨f,0,none⟩=some (ae a 4 c)/\W.cell? ⟨f,1,none⟩=some (ab self))
  (first|(go_keep;done)|exact h.out _ x.out|exact h.out _ (z.out _)|exact h.out _ (j.out.alloc j.out.size _)|exact h.out _ ((((j.out.setCell (ak _) _).setCell (ak _) _).setCell (ak _) _).setCell (ak _) _)|exact h.out _ j.out) ((first
   | (go_at_call 139;refine(K.out _ P.out).mono ?_;rintro aE q ⟨b,rfl,e⟩;rw[BF];have j:=ao (x.out.trans (e.out.1.mono x.out.size)))
   | (go_at_call 139;refine(K.out _ (O.out _)).mono ?_;rintro aE q ⟨b,rfl,e⟩;rw[BF];have j:=ao ((z.out _).trans (e.out.1.mono (z.out _).size));have ay:=ao (MG e.out.1);obtain⟨F,G,H,I,T,U,V,X⟩:=Kd e.out.1)))
 ·have B:Hid (∃m p,(m=q.alloc (.cells #[ab b.1.1,ab b.1.2.1,af b.1.2.2,ae b.2.1.1 b.2.2.length b.2.1.2] 30)/\p=q.heap.size)/\vO N b d y p q m):=by
    refine⟨_,_,⟨rfl,rfl⟩,j.out.alloc j.out.size _,aB _ _,?_,λM A _=>((ap _ _).alloc (ak _) _).block M A,?_⟩
    ·have:=i.out.2.2.1;have:=j.out.size;omega
    ·exact(In.offB e.out.2.2.1 e.out.2.1).mono λM A=>by have:=x.out.size;omega
  obtain⟨m,p,⟨l,D⟩,k⟩:=B.out;rw[<-l,<-D];replace k:=ao k;have Q:=ao e.out.2.1;have R:=ao e.out.2.2.2;have S:Hid (q.heap.size<=m.heap.size):=by
   rw[l];simp[Hid]
  clear l D B e K h z O P x Z aa ad ah C d1;obtain⟨⟨az,aA,aC,aD⟩,⟨F,G,H,I⟩,T,U,V,X,aG⟩:=k.out.cells i.out.2.2.1 J.out;go_wp2_with fail;exact av (v:=.tuple #[.agg #[ab b.1.1,ab b.1.2.1,af b.1.2.2,ae b.2.1.1 b.2.2.length b.2.1.2],.bool (Ez E (nu E o)==0)]) (by simp[results,Tryz.results103,go_sem,F,G,H,I]) rfl (k.out.close n.out i.out.2.2.2 i.out.2.2.1 Q.out R.out S.out)
 ·have B:Hid (∃m p,(m=cJ q d.heap.size 0 (ab b.1.1) (ab b.1.2.1) (af b.1.2.2) (ae b.2.1.1 b.2.2.length b.2.1.2)/\p=d.heap.size)/\vO N b d y p q m):=by
    refine⟨_,_,⟨rfl,rfl⟩,((((j.out.setCell (ak _) _).setCell (ak _) _).setCell (ak _) _).setCell (ak _) _),?_,?_,λM _ A=>aV A _ _ _ _,?_⟩
    ·exact rP ay.out _ _ _ _
    ·have:=i.out.2.2.1;omega
    ·exact(In.offB e.out.2.2.1 e.out.2.1).mono λM A=>by
       have:=A.1;simp[World.drew]at this;omega
  obtain⟨m,p,⟨l,D⟩,k⟩:=B.out;replace k:=ao k;have Q:=ao e.out.2.1;have R:=ao e.out.2.2.2;have S:Hid (q.heap.size<=m.heap.size):=by
   rw[l,bm];exact ak _
  unfold cJ at l;simp only[cT]at l;rw[<-l,<-D];clear l D B e K h z O P x Z aa ad ah C d1 F G H I T U V X;obtain⟨⟨az,aA,aC,aD⟩,⟨F,G,H,I⟩,T,U,V,X,aG⟩:=k.out.cells i.out.2.2.1 J.out;go_wp2_with fail;exact av (v:=.tuple #[.agg #[ab b.1.1,ab b.1.2.1,af b.1.2.2,ae b.2.1.1 b.2.2.length b.2.1.2],.bool (Ez E (nu E o)==0)]) (by simp[results,Tryz.results103,go_sem,F,G,H,I]) rfl (k.out.close n.out i.out.2.2.2 i.out.2.2.1 Q.out R.out S.out)
def Ej{N:Nat}:Option (Tm (N+1))->Bool
 | some a=>a.1.1==3
 | none=>false
theorem zZ(N:Nat)(o:Option (Tm (N+1)))(a d:Int)(f:ByteArray)(xa:Option Addr)(g xc:Nat)(q:Nat)(w:World)(p:Hid (∀W,aj w W->am 103 #[aF q,.agg #[ab a,ab d,af f,ae xa g xc]] W (vP N o W))):am 174 #[aF q,.agg #[ab a,ab d,af f,ae xa g xc]] w λe w'=>∃r,e=.returned (.tuple #[ab r,.bool (Ej o)])/\Hid (aj w w'/\∀b,o=some b->r=b.1.2.1):=by
 have h:Hid (∀o:Obj,aj w (w.alloc o)):=λo=>(ap _ _).alloc (ak _) o;have s:(w.alloc (.cells #[ab a,ab d,af f,ae xa g xc] 30)).cell? ⟨w.heap.size,0,none⟩=some (ab a):=ag (aB w _) 0;go_enter Tryz.func174,Tryz.ntmps174;go_wp2_with fail;refine(p.out _ (h.out _)).mono ?_;rintro e v ⟨x,rfl,i⟩;have l:=ao ((h.out (.cells #[ab a,ab d,af f,ae xa g xc] 30)).trans (i.out.1.mono (h.out _).size));have n:=ao i.out.2.2.2;have m:Hid (∀k:Obj,aj w (v.alloc k).drew):=λk=>(l.out.alloc l.out.size k).drew;clear i p s;cases o with
 | none=>
  simp only[mx];go_wp2_with fail;go_region
  all_goals
   go_wp2_with fail
   go_ret2
   exact⟨_,rfl,m.out _,λb j=>by cases j⟩
 | some b=>
  simp only[mA];have c:=n.out;simp only[Option.getD_some,ax,aA,cm]at c;have t:Hid (Ej (some b)=(x.1.1==3)):=by
   show _=_;rw[c.1.1.1];rfl
  have u:=ao c.1.1.2;clear c n;go_wp2_with fail;go_region
  all_goals
   go_wp2_with fail
   go_ret2
   rw[t.out];exact⟨_,rfl,m.out _,λy j=>by cases j;exact u.out⟩
theorem K5:(Tryz.prog.info? 3).map (λi=>(i.zero,i.size,i.bytes))=some (some (ab 0),1,8):=by kernel_rfl
def NB(base i:Nat)(f:Option Addr)(L g:Nat)(xs:List Value)(t:Bool)(h:Int->Prop)(w:World)(e:Ending)(w':World):Prop:=
 e=.returned (.bool t)/\(t=false->aj w w')/\
  (t=true->∃d a c b,h d/\b.ownsRow base 3 1 (ae (some ⟨a,0,none⟩) (L+1) c) (L+1) (xs++ [ab d])/\bq (λj=>(Value.slice f L g).ownBlock=some j) w b/\((Value.slice f L g).ownBlock=some a\/w.heap.size<=a)/\w'=b.setCell ⟨i,5,none⟩ (ae (some ⟨a,0,none⟩) (L+1) c))
theorem FG(k u v:Int)(x:ByteArray)(xa:Option Addr)(y xc:Nat)(y0 y1:Int)(y2:ByteArray)(ya:Option Addr)(yl yc:Nat)(nm:ByteArray)(O:Int)(base a:Nat)(b:Option Addr)(L c:Nat)(xs:List Value)(w:World)(t:Bool)(z:Int->Prop)(al:L<=10000)(G:a<w.heap.size)(an:base<=w.heap.size)(A:Hid (w.cell? ⟨a,5,none⟩=some (ae b L c)/\w.frozen? ⟨a,5,none⟩=false))(V:Hid (w.ownsRow base 3 1 (ae b L c) L xs))(B:Hid ((Value.slice b L c).ownBlock≠some a))(C:Hid (∀W,aj w W->am 174 #[aF a,.agg #[ab u,ab v,af x,ae xa y xc]] W λe w'=>∃f,e=.returned (.tuple #[ab f,.bool t])/\Hid (aj W w'/\z f))):am 163 #[aF a,.agg #[ab k,ab u,ab v,af x,ae xa y xc,ab y0,ab y1,af y2,ae ya yl yc,af nm,ab O]] w (NB base a b L c xs t z w):=by
 obtain⟨j,H,J,K,M⟩:=bS K5;have n:Hid (Tryz.prog.info? 3=some j/\j.zero=some (ab 0)/\j.size=1/\j.bytes=8):=⟨H,J,K,M⟩;clear H J K M;have D:Hid (∃r,r=w.alloc (.cells #[ab k,ab u,ab v,af x,ae xa y xc,ab y0,ab y1,af y2,ae ya yl yc,af nm,ab O] 224)/\aj w r):=⟨_,rfl,(ap _ _).alloc (ak _) _⟩;go_enter Tryz.func163,Tryz.ntmps163;go_wp2_with fail;obtain⟨r,N,F⟩:=D.out;rw[<-N];have m:=ao F;clear N F D;refine(C.out _ m.out).mono ?_;rintro e l ⟨f,rfl,q⟩;have d:=ao (m.out.trans (q.out.1.mono m.out.size));have Q:=ao q.out.2;clear q C m;cases t
 ·go_wp2_with fail
  go_ret
  exact⟨rfl,λ_=>d.out,λh=>(by cases h)⟩
 ·have X:l.cell? ⟨a,5,none⟩=some (ae b L c):=(d.out.cell (p:=⟨a,5,none⟩) G).trans A.out.1;have T:Hid (l.ownsRow base 3 1 (ae b L c) L xs):=bf V.out (aI d.out λ_=>False) λ_ _ h=>h;have g:=ao d.out.size;have R:Hid (l.frozen? ⟨a,5,none⟩=false):=by
   have i:=A.out.2;unfold World.frozen? at i ⊢;rw[d.out.block a G];exact i
  go_wp2_with (first
   | (at_builtin;refine wpList_append_lies _ rfl _ _ 44 rfl base 3 j _ 1 8 Tryz.underlying44 n.out.1 n.out.2.1 n.out.2.2.1 n.out.2.2.2 rfl (by decide) (ae b L c) L xs rfl (T.out.alloc _) ⟨l.heap.size,0,none⟩ 1 1 [ab f] rfl rfl (World.news_of_block (cs:= #[ab f]) (t:=3) (fr:=(0,0)) (aB l _)) (by simp[Value.oneCell']) (by decide) (by unfold maxLen;omega) (by omega) (by have:=g.out;simp;omega) _ rfl ?_;intro Z Y s I o E aa;have U:=ao I;have S:=ao o;have P:=ao E;have ad:s.cell? ⟨a,5,none⟩=some (ae b L c):=(o.cell_far ⟨a,5,none⟩ (by show a<_;have:=g.out;simp;omega) (λe=>B.out e.symm)).trans (((ap _ _).alloc (ak _) _ |>.cell (p:=⟨a,5,none⟩) (by show a<_;have:=g.out;omega)).trans X);have ag:s.frozen? ⟨a,5,none⟩=false:=(o.frozen_far ⟨a,5,none⟩ (by show a<_;have:=g.out;simp;omega) (λe=>B.out e.symm)).trans (by have i:=R.out;unfold World.frozen? at i ⊢;rw[((ap _ _).alloc (ak _) (.cells #[ab f] 3)).block a (by have:=g.out;omega)];exact i);clear I o E aa))
  go_ret
  refine⟨rfl,λh=>(by cases h),λ_=>⟨f,Z,Y,s,Q.out,U.out,?_,?_,rfl⟩⟩
  ·exact bq.trans (aI (d.out.alloc d.out.size _) _) (dU S.out) λ_ _ e=>e
  ·rcases P.out with e|e
   ·exact ah e
   ·have:=g.out;simp at e;exact ai (by omega)
section
variable {P:Program} {ops:Array Oper} {Q:Exit->Act->World->Prop} {md:Region.Mode} {S:World->Prop} {X:Nat}
def jB(P:Program)(md:Region.Mode)(ops:Array Oper)(Q:Exit->Act->World->Prop)(S:World->Prop)(X:Nat):Nat->Array Bool->Act->World->Prop
 | 0,listed,a,w=>Region.ready md ops listed=[]/\Q .normal a w
 | fuel+1,listed,a,w=>
  (Region.ready md ops listed=[]->Q .normal a w)/\
  ∀i∈Region.ready md ops listed,wpOp P ops Q i (λb w'=>(i≠X->S w')/\jB P md ops Q S X fuel (listed.setIfInBounds i true) b w') a w
theorem vn:∀(fuel:Nat)(b:Array Bool)(a:Act)(w:World),jB P md ops Q S X fuel b a w->wpAny P md ops Q fuel b a w
 | 0,_,_,_,h=>h
 | fuel+1,_,_,_,h=>⟨h.1,λi e=>wpOp_mono (λc w' d=>vn fuel _ c w' d.2) (h.2 i e)⟩
theorem zh{i:Nat}{m:Oper}{v:Value}(z:ops[i]?=some m)(G:∀(j:Nat)(o:Oper) cs b,ops[j]?=some o->o.op≠.select cs b)(L:∀c a w,Q (.panic c) (a.put m.dst v) w->Q (.panic c) a w)(M:∀d,ops[X]?=some d->∃e∈d.after,Region.binds md e=true/\e.on=i):∀(p:Nat)(f:Array Bool)(a:Act)(w:World),(∀j d,ops[j]?=some d->j≠i->f.getD j true=false->(∀e∈d.after,Region.binds md e=true->e.on≠i)->m.apart ops d=true)-> i∈Region.ready md ops f->YieldsIf P ops S m v a->S w-> jB P md ops Q S X p (f.setIfInBounds i true) (a.put m.dst v) w->jB P md ops Q S X (p+1) f a w:=by
 intro p
 induction p with
 | zero=>
  intro f a w _ l u q n;refine⟨λx=>(by rw[x]at l;cases l),λj s=>?_⟩;by_cases g:j=i
  ·subst g;exact u.wpOp z q ⟨λ_=>q,n⟩
  ·have:=ready_mono s g;rw[n.1]at this;cases this
 | succ p ih=>
  intro f a w B l u q n;refine⟨λx=>(by rw[x]at l;cases l),λj s=>?_⟩;by_cases g:j=i
  ·subst g;exact u.wpOp z q ⟨λ_=>q,n⟩
  ·have h:=n.2 j (ready_mono s g);obtain⟨D,d,t,N⟩:=mem_ready.1 s;have F:∀e∈d.after,Region.binds md e=true->e.on≠i:=λe T O V=>by
    have h:=N e T O;have A:=(mem_ready.1 l).1;rw[V]at h;rcases Nat.lt_or_ge i f.size with y|y
    ·simp[y]at A h;rw[A]at h;cases h
    ·simp[Array.getElem?_eq_none y]at h
   have E:j≠X:=λe=>by
    obtain⟨J,U,R,ab⟩:=M d (by rw[<-e];exact t);exact F J U R ab
   have K:=wpOp_putIf t (B j d t g D F) (λcs b=>G i m cs b z) (λcs b=>G j d cs b t) L u h
   have W:∀k ok,ops[k]?=some ok->k≠i->(f.setIfInBounds j true).getD k true=false->
     (∀e∈ok.after,Region.binds md e=true->e.on≠i)->m.apart ops ok=true:=λk ok Y Z H aa=>by
    refine B k ok Y Z ?_ aa;by_cases C:j=k
    ·subst C;exact D
    ·rw[getD_set_ne true C]at H;exact H
   refine wpOp_mono (λI ad r=>⟨λ_=>r.2.1 E,ih (f.setIfInBounds j true) I ad W (ready_mono l (Ne.symm g)) r.1 (r.2.1 E) ?_⟩) K;rw[Array.setIfInBounds_comm _ _ g];exact r.2.2
def ze(md:Region.Mode)(ops:Array Oper)(X i:Nat):Bool:=((ops[X]?).map λo=>o.after.any λe=>Region.binds md e && e.on==i).getD false
theorem DH{i:Nat}(a:ze md ops X i=true):∀b,ops[X]?=some b->∃e∈b.after,Region.binds md e=true/\e.on=i:=λb c=>by
 unfold ze at a;rw[c]at a;simp only[Option.map_some,Option.getD_some,Array.any_eq_true]at a;obtain⟨k,d,a⟩:=a;simp only[aA,cm]at a;exact⟨_,Array.getElem_mem d,a.1,a.2⟩
theorem aS{i:Nat}{d:Oper}{v:Value}{e:Nat}{b:Array Bool}{a:Act}{w:World}(f:ops[i]?=some d)(n:Region.noSelect ops=true)(k:Region.free md ops b i=true)(m:(Region.ready md ops b).contains i=true)(o:ze md ops X i=true)(h:∀c a w,Q (.panic c) (a.put d.dst v) w->Q (.panic c) a w)(l:d.guard=none)(p:∀w,S w->(execOp a.eval d).run P w=.ok (.value v) w)(j:S w)(g:jB P md ops Q S X e (b.setIfInBounds i true) (a.put d.dst v) w):jB P md ops Q S X (e+1) b a w:=
 zh f (Region.noSelect_spec n) h (DH o) e b a w (Region.free_spec f k) (by simpa using m) (ah ⟨by simp[Region.wanted,l],p⟩) j g
theorem cV{i:Nat}{o:Oper}{d:Nat}{c:Array Bool}{a:Act}{w:World}(h:Region.ready md ops c=[i])(n:ops[i]?=some o)(l:o.guard=none)(j:∀K:Act->World->Prop,Hid (∀b w',(i≠X->S w')->(S w'->jB P md ops Q S X d (c.setIfInBounds i true) b w')->K b w')->o.wp P a w K Q)(m:i≠X):jB P md ops Q S X (d+1) c a w:=by
 refine⟨λe=>(by rw[h]at e;cases e),λq g=>?_⟩;rw[h]at g;obtain rfl:q=i:=by simpa using g
 unfold wpOp;simp only[n];have p:Region.wanted o (yielded ops a.tmps)=true:=by simp[Region.wanted,l]
 simp only[p,cI];exact ah (j _ λb w' f k=>⟨f,k (f m)⟩)
theorem jh{o:Oper}{c:Nat}{d:Array Bool}{a:Act}{w:World}(i:Region.ready md ops d=[X])(m:ops[X]?=some o)(l:o.guard=none)(g:Region.ready md ops (d.setIfInBounds X true)=[])(j:∀K:Act->World->Prop,Hid (∀b w',Q .normal b w'->K b w')->o.wp P a w K Q):jB P md ops Q S X (c+1) d a w:=by
 refine⟨λe=>(by rw[i]at e;cases e),λp h=>?_⟩;rw[i]at h;obtain rfl:p=X:=by simpa using h
 unfold wpOp;simp only[m];have n:Region.wanted o (yielded ops a.tmps)=true:=by simp[Region.wanted,l]
 simp only[n,cI];refine ah (j _ λb w' f=>⟨λk=>absurd rfl k,?_⟩);cases c with
 | zero=>exact⟨g,f⟩
 | succ c=>exact⟨λ_=>f,by rw[g];simp⟩
theorem ji(S:World->Prop)(X:Nat){id:Nat}{a:Act}{w:World}(c:P.follows .mixedOrders=true)(b:jB P .any ops Q S X ops.size (Array.replicate ops.size false) a w.drew):(Code.region id ops true).wp P Q a w:=
 wp_region_any c (vn _ _ _ _ b)
end
end Go.Proofs.YtckamaoibonjcaaGreat
