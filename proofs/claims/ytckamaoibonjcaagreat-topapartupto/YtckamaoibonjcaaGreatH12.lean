/- What is proved here: plain facts and contracts that the claimed theorem stands on. No condition but those that each names. -/
import Derived.Test.YtckamaoibonjcaaGreatH11
import Derived.OrdersHeld
namespace Go.Proofs.YtckamaoibonjcaaGreat
open Go.RowKit
set_option maxRecDepth 100000
set_option maxHeartbeats 4000000
abbrev Ac(n:Nat):Type:=Int×(Tm n×Tm n)×(ByteArray×Int)
abbrev Cl(n:Nat):Type:=(Tm n×Tm n×Tm n)×(Option Addr×Nat)×List (Ac n)
abbrev Bh(n:Nat):Type:=ByteArray×(Option Addr×Nat)×List (Cl n)
def gX(n:Nat)(x:Tm n):List Value:=uF (fX n x)
def fT(n:Nat)(a:Ac n):List Value:=ab a.1::(gX n a.2.1.1++gX n a.2.1.2++ [ae a.2.2.1,ab a.2.2.2])
def eO(n:Nat)(c:Cl n):List Value:=gX n c.1.1++gX n c.1.2.1++(.slice c.2.1.1 c.2.2.length c.2.1.2::gX n c.1.2.2)
def oR(n:Nat)(b:Bh n):List Value:=[ae b.1,.slice b.2.1.1 b.2.2.length b.2.1.2]
def pr{c:Type}(B:Nat)(w:World)(k:Nat)(f:c->List Value)(i:c->Prop)(a:Option Addr)(l:List c):Prop:=
 l=[]\/∃b o,a=some ⟨b,o,none⟩/\b<B/\∀(e:Nat)(d:c),l[e]?=some d->(∀(g:Nat)(h:Value),(f d)[g]?=some h->w.cell? ⟨b,o+e*k+g,none⟩=some h)/\i d
def ic(n:Nat)(B:Nat)(w:World)(a:Ac n):Prop:=dk a.1/\In B w n a.2.1.1/\In B w n a.2.1.2/\a.2.2.1.size<=maxLen/\dk a.2.2.2
def gL(n:Nat)(B:Nat)(w:World)(c:Cl n):Prop:=(In B w n c.1.1/\In B w n c.1.2.1/\In B w n c.1.2.2)/\(c.2.2.length<=c.2.1.2/\c.2.1.2<=maxLen)/\pr B w 11 (fT n) (ic n B w) c.2.1.1 c.2.2
def oP(n:Nat)(B:Nat)(w:World)(b:Bh n):Prop:=b.1.size<=maxLen/\(b.2.2.length<=b.2.1.2/\b.2.1.2<=maxLen)/\pr B w 13 (eO n) (gL n B w) b.2.1.1 b.2.2
def sN{c:Type}(d:c->Prop)(P:Nat->Prop)(a:Option Addr)(l:List c):Prop:=l=[]\/∃b o,a=some ⟨b,o,none⟩/\P b/\∀y∈l,d y
def lp(n:Nat)(P:Nat->Prop)(a:Ac n):Prop:=bZ P n a.2.1.1/\bZ P n a.2.1.2
def ju(n:Nat)(P:Nat->Prop)(c:Cl n):Prop:=(bZ P n c.1.1/\bZ P n c.1.2.1/\bZ P n c.1.2.2)/\sN (lp n P) P c.2.1.1 c.2.2
def jt(n:Nat)(P:Nat->Prop)(b:Bh n):Prop:=sN (ju n P) P b.2.1.1 b.2.2
def jv{f:Type}(g:Nat->World->f->Prop)(h:(Nat->Prop)->f->Prop):Prop:=
 (∀(e j:Nat->Prop)(a:f),(∀b,e b->j b)->h e a->h j a)/\(∀(e:Nat->Prop)(c:Nat)(d:World)(a:f),h e a->g c d a->h (λb=>e b/\b<c) a)/\
 (∀(e:Nat->Prop)(c:Nat)(d k:World)(a:f),(∀b,e b->k.heap[b]?=d.heap[b]?)->h e a->g c d a->g c k a)/\(∀(c i:Nat)(d:World)(a:f),c<=i->g c d a->g i d a)/\
 (∀(c:Nat)(d:World)(a:f),g c d a->h (λb=>b<c) a)
theorem od{B:Nat}{w:World}:{n:Nat}->{x:Tm n}->In B w n x->bZ (λb=>b<B) n x
 | 0,_,k=>k
 | _+1,_,k=>by
  obtain⟨_,a⟩:=k;rcases a with a|⟨b,o,e,c,a⟩
  ·exact ag a
  ·exact ah ⟨b,o,e,c,λi y d=>od (a i y d).2⟩
theorem dM(n:Nat):jv (λB w x=>In B w n x) (λP x=>bZ P n x):=
 ⟨λ_ _ _ a k=>k.mono a,λ_ _ _ _ a k=>In.offB a k,λ_ _ _ _ _ a b k=>In.off a b k,λ_ _ _ _ a k=>k.mono a,λ_ _ _ k=>od k⟩
theorem fu(n:Nat):jv (ic n) (lp n):=by
 obtain⟨i,j,l,m,o⟩:=dM n
 exact⟨λd g e b k=>⟨i d g _ b k.1,i d g _ b k.2⟩,λd a c e b k=>⟨j d a c _ b.1 k.2.1,j d a c _ b.2 k.2.2.1⟩,
  λd a c p e b h k=>⟨k.1,l d a c p _ b h.1 k.2.1,l d a c p _ b h.2 k.2.2.1,k.2.2.2⟩,λa f c e b k=>⟨k.1,m a f c _ b k.2.1,m a f c _ b k.2.2.1,k.2.2.2⟩,
  λa c e k=>⟨o a c _ k.2.1,o a c _ k.2.2.1⟩⟩
theorem cu{r:Type}{s:Nat->World->r->Prop}{t:(Nat->Prop)->r->Prop}(d:jv s t)(k:Nat)(f:r->List Value)(a:Option Addr):jv (λB w l=>pr B w k f (s B w) a l) (λP l=>sN (t P) P a l):=by
 obtain⟨C,D,E,F,G⟩:=d;refine⟨λP v n d k=>?_,λP B w n d k=>?_,λP B w I n d m k=>?_,λB u w n d k=>?_,λB w n k=>?_⟩
 ·rcases k with k|⟨b,o,g,i,k⟩
  ·exact ag k
  ·exact ah ⟨b,o,g,d b i,λc e=>C P v c d (k c e)⟩
 ·rcases k with k|⟨b,o,g,i,k⟩
  ·exact ag k
  ·rcases d with d|⟨x,A,j,p,d⟩
   ·exact ag d
   ·rw[g]at j;simp at j;obtain⟨rfl,rfl⟩:=j;refine ah ⟨b,o,g,⟨p,i⟩,λc e=>?_⟩;obtain⟨h,q⟩:=cJ e;exact D P B w c (d c e) (k h c q).2
 ·rcases k with k|⟨b,o,g,i,k⟩
  ·exact ag k
  ·rcases m with m|⟨x,A,j,p,m⟩
   ·exact ag m
   ·rw[g]at j;simp at j;obtain⟨rfl,rfl⟩:=j;exact ah ⟨b,o,g,i,λh c e=>⟨λz H y=>(bm (d b p) _).trans ((k h c e).1 z H y),E P B w I c d (m c (aG e)) (k h c e).2⟩⟩
 ·rcases k with k|⟨b,o,g,i,k⟩
  ·exact ag k
  ·exact ah ⟨b,o,g,by omega,λh c e=>⟨(k h c e).1,F B u w c d (k h c e).2⟩⟩
 ·rcases k with k|⟨b,o,g,i,k⟩
  ·exact ag k
  ·refine ah ⟨b,o,g,i,λc e=>?_⟩;obtain⟨h,q⟩:=cJ e;exact G B w c (k h c q).2
theorem dU(n:Nat):jv (gL n) (ju n):=by
 obtain⟨l,m,o,p,q⟩:=dM n;have e:=λr=>cu (fu n) 11 (fT n) r
 exact⟨λd g j b k=>⟨⟨l d g _ b k.1.1,l d g _ b k.1.2.1,l d g _ b k.1.2.2⟩,(e _).1 d g _ b k.2⟩,
  λd a c j b k=>⟨⟨m d a c _ b.1.1 k.1.1,m d a c _ b.1.2.1 k.1.2.1,m d a c _ b.1.2.2 k.1.2.2⟩,(e _).2.1 d a c _ b.2 k.2.2⟩,
  λd a c i j b h k=>⟨⟨o d a c i _ b h.1.1 k.1.1,o d a c i _ b h.1.2.1 k.1.2.1,o d a c i _ b h.1.2.2 k.1.2.2⟩,k.2.1,(e _).2.2.1 d a c i _ b h.2 k.2.2⟩,
  λa f c j b k=>⟨⟨p a f c _ b k.1.1,p a f c _ b k.1.2.1,p a f c _ b k.1.2.2⟩,k.2.1,(e _).2.2.2.1 a f c _ b k.2.2⟩,
  λa c j k=>⟨⟨q a c _ k.1.1,q a c _ k.1.2.1,q a c _ k.1.2.2⟩,(e _).2.2.2.2 a c _ k.2.2⟩⟩
theorem dJ(n:Nat):jv (oP n) (jt n):=by
 have d:=λi=>cu (dU n) 13 (eO n) i
 exact⟨λe h f b k=>(d _).1 e h _ b k,λe a c f b k=>(d _).2.1 e a c _ b k.2.2,λe a c l f b j k=>⟨k.1,k.2.1,(d _).2.2.1 e a c l _ b j k.2.2⟩,
  λa g c f b k=>⟨k.1,k.2.1,(d _).2.2.2.1 a g c _ b k.2.2⟩,λa c f k=>(d _).2.2.2.2 a c _ k.2.2⟩
def gM(n:Nat)(B:Nat)(w:World)(a:Option Addr)(l:List (Bh n)):Prop:=pr B w 2 (oR n) (oP n B w) a l
theorem jv.below{c:Type}{a:Nat->World->c->Prop}{e:(Nat->Prop)->c->Prop}(d:jv a e){B:Nat}{w w':World}(f:Below B w w'){x:c}(k:a B w x):a B w' x:=
 d.2.2.1 (λb=>b<B) B w w' x (λb g=>f.block b g) (d.2.2.2.2 B w x k) k
theorem jv.mono{b:Type}{a:Nat->World->b->Prop}{c:(Nat->Prop)->b->Prop}(d:jv a c){B C:Nat}(e:B<=C){w:World}{x:b}(k:a B w x):a C w x:=d.2.2.2.1 B C w x e k
theorem gM.below{n B:Nat}{w w':World}{a:Option Addr}{l:List (Bh n)}(b:Below B w w')(k:gM n B w a l):gM n B w' a l:=(cu (dJ n) 2 (oR n) a).below b k
theorem gM.mono{n B C:Nat}(b:B<=C){w:World}{a:Option Addr}{l:List (Bh n)}(k:gM n B w a l):gM n C w a l:=(cu (dJ n) 2 (oR n) a).mono b k
def eU{a:Type}(d:Nat->World->a->Prop)(e:(Nat->Prop)->a->Prop)(f:a->List Value)(k:Nat)(T:TypeId)(B base:Nat)(xs:List a)(v:Value)(w0 wr:World):Prop:=
 Below base w0 wr/\wr.ownsRow base T k v xs.length (xs.flatMap f)/\∀c∈xs,d wr.heap.size wr c/\e (λb=>(b<B\/base<=b)/\v.ownBlock≠some b) c
theorem eU.nil{a:Type}{b:Nat->World->a->Prop}{c:(Nat->Prop)->a->Prop}{f:a->List Value}{k:Nat}{T:TypeId}{B base:Nat}(w:World):eU b c f k T B base [] (.slice none 0 0) w w:=
 ⟨am _ _,ek _ _ _ _,λe d=>by cases d⟩
theorem eU.later{b:Type}{c:Nat->World->b->Prop}{d:(Nat->Prop)->b->Prop}(e:jv c d){f:b->List Value}{k:Nat}{T:TypeId}{B base:Nat}{xs:List b}{v:Value}{w0 wr w1:World}(j:eU c d f k T B base xs v w0 wr)(l:base<=wr.heap.size)(a:ai wr w1):eU c d f k T B base xs v w0 w1:=by
 obtain⟨m,n,h⟩:=j;exact⟨m.trans (a.mono l),dG n a,λi g=>⟨e.mono a.size (e.below a (h i g).1),(h i g).2⟩⟩
theorem eU.step{q:Type}{r:Nat->World->q->Prop}{s:(Nat->Prop)->q->Prop}(e:jv r s){f:q->List Value}{k:Nat}{T:TypeId}{B base:Nat}{xs:List q}{v:Value}{w0 wr w1 w2:World}(D:eU r s f k T B base xs v w0 wr)(L:B<=base)(y:base<=wr.heap.size)(j:ai wr w1)(h:q)(w:r w1.heap.size w1 h)(F:s (λb=>b<B\/wr.heap.size<=b) h){g c:Nat}(H:w2.ownsRow base T k (.slice (some ⟨g,0,none⟩) (xs.length+1) c) (xs.length+1) (xs.flatMap f++f h))(m:w1.grownBy w2 v.ownBlock)(x:v.ownBlock=some g\/g=w1.heap.size):eU r s f k T B base (xs++ [h]) (.slice (some ⟨g,0,none⟩) (xs.length+1) c) w0 w2:=by
 obtain⟨o,J,K⟩:=D;have u:∀b,v.ownBlock=some b->base<=b/\b<wr.heap.size:=λb d=>J.lt b d;have t:∀b,b<w1.heap.size->v.ownBlock≠some b->w2.heap[b]?=w1.heap[b]? :=λb y G=>m.block b y (λd=>G d.symm);have E:=j.size;have z:=m.size;refine⟨⟨(m.os.trans j.os).trans o.os,(m.tape.trans j.tape).trans o.tape,(m.output.trans j.output).trans o.output,by have:=o.size;omega,λb a=>?_⟩,?_,?_⟩
 ·exact(t b (by omega) (λd=>by have:=(u b d).1;omega)).trans ((j.block b (by omega)).trans (o.block b a))
 ·have C:(xs++ [h]).length=xs.length+1:=by simp
  have i:(xs++ [h]).flatMap f=xs.flatMap f++f h:=by simp
  rw[C,i];exact H
 ·intro p l;rcases da.1 l with l|l
  ·obtain⟨A,I⟩:=K p l;have n:=e.2.1 _ _ _ _ I A;refine⟨e.mono z (e.2.2.1 _ _ w1 w2 p (λb a=>t b ?_ a.1.2) n (e.mono E (e.below j A))),e.1 _ _ p (λb a=>⟨a.1.1,?_⟩) n⟩
   ·have:=a.2;omega
   ·simp only[Value.ownBlock];intro d;injection d with d;rcases x with i|i
    ·exact a.1.2 (by rw[i,d])
    ·have:=a.2;omega
  ·simp only[dD]at l;subst l;have n:=e.2.1 _ _ _ _ F w;refine⟨e.mono z (e.2.2.1 _ _ w1 w2 p (λb a=>t b a.2 (λd=>?_)) n w),e.1 _ _ p (λb a=>⟨?_,?_⟩) n⟩
   ·have:=u b d;have:=a.1;omega
   ·have:=a.1;omega
   ·simp only[Value.ownBlock];intro d;injection d with d;rcases x with i|i
    ·have:=u g i;have:=a.1;omega
    ·have:=a.2;omega
theorem eU.lit{d:Type}{e:Nat->World->d->Prop}{g:(Nat->Prop)->d->Prop}(a:jv e g){f:d->List Value}{k:Nat}{T:TypeId}{B base:Nat}(xs:List d){w0 w1:World}{cs:Array Value}(i:cs.toList=xs.flatMap f)(r:∀x,(f x).length=k)(p:xs.length<=maxLen)(m:base<=w1.heap.size)(q:Below base w0 w1)(c:∀y∈xs,e w1.heap.size w1 y/\g (λb=>b<B\/base<=b) y):eU e g f k T B base xs (.slice (some ⟨w1.heap.size,0,none⟩) xs.length xs.length) w0 (w1.alloc (.cells cs T)):=by
 have h:ai w1 (w1.alloc (.cells cs T)):=(am _ _).alloc (aj _) _;have o:(xs.flatMap f).length=xs.length*k:=by
  clear i c p
  induction xs with
  | nil=>simp
  | cons x xs ih=>rw[bv,bf,ih,r,aZ,Nat.succ_mul];omega
 have s:cs.size=xs.length*k:=by rw[<-o,<-i];simp
 refine⟨q.trans (h.mono m),⟨by rw[o],ah ⟨w1.heap.size,xs.length,cs,rfl,m,az w1 _,aj _,p,by omega,?_⟩⟩,λy j=>⟨a.mono h.size (a.below h (c y j).1),?_⟩⟩
 ·rw[i,bw (by omega)]
 ·refine a.1 _ _ y (λb n=>⟨n.1,?_⟩) (a.2.1 _ _ _ _ (c y j).2 (c y j).1);simp only[Value.ownBlock];intro l;injection l with l;have:=n.2;omega
theorem eU.lay{m:Type}{p:Nat->World->m->Prop}{q:(Nat->Prop)->m->Prop}(y:jv p q){f:m->List Value}{k:Nat}{T:TypeId}{B base:Nat}{xs:List m}{v:Value}{w0 wr:World}(u:∀x,(f x).length=k)(h:eU p q f k T B base xs v w0 wr):∃a c,v=.slice a xs.length c/\(xs.length<=c/\c<=maxLen)/\pr wr.heap.size wr k f (p wr.heap.size wr) a xs/\sN (q (λb=>b<B\/base<=b)) (λb=>b<B\/base<=b) a xs:=by
 obtain⟨M,H,w⟩:=h;rcases H.2 with⟨r,J⟩|⟨s,cap,I,r,E,t,C,F,L,D⟩
 ·have G:xs=[]:=bB (by omega);subst G;exact⟨none,0,r,⟨aj _,aF _⟩,ag rfl,ag rfl⟩
 ·refine⟨some ⟨s,0,none⟩,cap,r,⟨C,F⟩,ah ⟨s,0,rfl,(aC.1 t).1,λd e o=>⟨λg j n=>?_,(w e (aG o)).1⟩⟩,ah ⟨s,0,rfl,ah E,λe o=>y.1 _ _ e (λb A=>A.1) (w e o).2⟩⟩;have z:∀(l:List m)(d g:Nat)(e:m)(j:Value),l[d]?=some e->(f e)[g]?=some j->(l.flatMap f)[d*k+g]?=some j:=by
   intro l
   induction l with
   | nil=>intro d g e j h;simp at h
   | cons x l ih=>
    intro d g e j h n;rw[bv];cases d with
    | zero=>
     simp at h;subst h;rw[dg (by have:=(aM.1 n).1;omega)];simpa using n
    | succ d=>
     rw[dN (by rw[u,Nat.succ_mul];omega),u,Nat.succ_mul,show d*k+k+g-k=d*k+g by omega];exact ih d g e j (by simpa using h) n
  have i:=z xs d g e j o n;have K:=(aM.1 i).1;rw[<-D]at i;rw[jY]at i;split at i
  ·rw[cP];simp only[World.cell?,t];rw[lW]at i;simpa using i
  ·cases i
def G6(i:Option (List An))(f:List An->Option (List An))(w:World)(e:Ending)(w':World):Prop:=
 ∃h len c d,e=.returned (.tuple #[.slice h len c,.bool d])/\Hid (ai w w'/\(i=none->d=false)/\∀b,i=some b->∃g:List (Tm (mr b)),ay (λk m=>aw (mr b) k (mr b) m) g (By b)=true/\(f (ni (mr b) g)=none->d=false)/\
  ∀a,f (ni (mr b) g)=some a->d=true/\len=4/\a.length=4/\∃j l,w.heap.size<=j.heap.size/\gA (mr a) (By a) j w' h c l)
theorem CX(g h j k v x s0 s1 K t1:Int)(i m y q t2:ByteArray)(pa n z sa L t:Option Addr)(pl pc p o B A sl sc N M cl u:Nat)(S:Option (List An))(f:List An->Option (List An))(w:World)(Y:Hid (∀E W,ai w E->gA 1 (List.replicate 4 eW) E W (some ⟨E.heap.size,0,none⟩) 4 (List.replicate 4 eW)->ak 136 #[.agg #[ab g,ab h,ae i,.slice pa pl pc],.agg #[ab s0,ab s1,ae q,.slice sa sl sc],.slice (some ⟨E.heap.size,0,none⟩) 4 4] W (xu 0 S W)))(aC:Hid (∀(b:List An)(l:List (Tm (mr b)))(a:Option Addr)(c:Nat)(E W:World),ai w W->S=some b->b.length=4->gA (mr b) (By b) E W a c l->ak 136 #[.agg #[ab j,ab k,ae m,.slice n p o],.agg #[ab K,ab t1,ae t2,.slice L N M],.slice a 4 c] W (xu 0 (f (ni (mr b) l)) W))):ak 101 #[.agg #[ab g,ab h,ae i,.slice pa pl pc,ab j,ab k,ae m,.slice n p o,.slice t cl u,ab v,ab x,ae y,.slice z B A],.agg #[ab s0,ab s1,ae q,.slice sa sl sc],.agg #[ab K,ab t1,ae t2,.slice L N M]] w (G6 S f w):=by
 go_enter Tryz.func101,Tryz.ntmps101;go_wp2_with fail;have Z:Hid (∃s d e F,(s=((w.alloc (.cells #[ab g,ab h,ae i,.slice pa pl pc,ab j,ab k,ae m,.slice n p o,.slice t cl u,ab v,ab x,ae y,.slice z B A] 147)).alloc (.cells #[ab s0,ab s1,ae q,.slice sa sl sc] 30)).alloc (.cells #[ab K,ab t1,ae t2,.slice L N M] 30)/\d=w.heap.size/\e=w.heap.size+1/\F=w.heap.size+2)/\ai w s/\∀W,ai s W->(W.cell? ⟨d,0,none⟩=some (ab g)/\W.cell? ⟨d,1,none⟩=some (ab h)/\W.cell? ⟨d,2,none⟩=some (ae i)/\W.cell? ⟨d,3,none⟩=some (.slice pa pl pc))/\(W.cell? ⟨d,4,none⟩=some (ab j)/\W.cell? ⟨d,5,none⟩=some (ab k)/\W.cell? ⟨d,6,none⟩=some (ae m)/\W.cell? ⟨d,7,none⟩=some (.slice n p o))/\(W.cell? ⟨e,0,none⟩=some (ab s0)/\W.cell? ⟨e,1,none⟩=some (ab s1)/\W.cell? ⟨e,2,none⟩=some (ae q)/\W.cell? ⟨e,3,none⟩=some (.slice sa sl sc))/\(W.cell? ⟨F,0,none⟩=some (ab K)/\W.cell? ⟨F,1,none⟩=some (ab t1)/\W.cell? ⟨F,2,none⟩=some (ae t2)/\W.cell? ⟨F,3,none⟩=some (.slice L N M))):=by
  have aR:(w.alloc (.cells #[ab g,ab h,ae i,.slice pa pl pc,ab j,ab k,ae m,.slice n p o,.slice t cl u,ab v,ab x,ae y,.slice z B A] 147)).heap.size=w.heap.size+1:=by simp
  have aS:((w.alloc (.cells #[ab g,ab h,ae i,.slice pa pl pc,ab j,ab k,ae m,.slice n p o,.slice t cl u,ab v,ab x,ae y,.slice z B A] 147)).alloc (.cells #[ab s0,ab s1,ae q,.slice sa sl sc] 30)).heap.size=w.heap.size+2:=by simp
  refine⟨_,_,_,_,⟨rfl,rfl,rfl,rfl⟩,(((am _ _).alloc (aj _) _).alloc (by simp) _).alloc (by simp;omega) _,λW G=>?_⟩;have r:=(G.block w.heap.size (by simp;omega)).trans ((((am _ _).alloc (aj _) _).block w.heap.size (by simp;omega)).trans ((((am _ _).alloc (aj _) _).block w.heap.size (by simp)).trans (az w (.cells #[ab g,ab h,ae i,.slice pa pl pc,ab j,ab k,ae m,.slice n p o,.slice t cl u,ab v,ab x,ae y,.slice z B A] 147))));have aq:=az (w.alloc (.cells #[ab g,ab h,ae i,.slice pa pl pc,ab j,ab k,ae m,.slice n p o,.slice t cl u,ab v,ab x,ae y,.slice z B A] 147)) (.cells #[ab s0,ab s1,ae q,.slice sa sl sc] 30);rw[aR]at aq;have Q:=(G.block (w.heap.size+1) (by simp)).trans ((((am _ _).alloc (aj _) _).block (w.heap.size+1) (by simp)).trans aq);have ar:=az ((w.alloc (.cells #[ab g,ab h,ae i,.slice pa pl pc,ab j,ab k,ae m,.slice n p o,.slice t cl u,ab v,ab x,ae y,.slice z B A] 147)).alloc (.cells #[ab s0,ab s1,ae q,.slice sa sl sc] 30)) (.cells #[ab K,ab t1,ae t2,.slice L N M] 30);rw[aS]at ar;have R:=(G.block (w.heap.size+2) (by simp)).trans ar;exact⟨⟨af r 0,af r 1,af r 2,af r 3⟩,⟨af r 4,af r 5,af r 6,af r 7⟩,⟨af Q 0,af Q 1,af Q 2,af Q 3⟩,af R 0,af R 1,af R 2,af R 3⟩
 obtain⟨s,d,e,F,⟨an,ag,ah,al⟩,C,D⟩:=Z.out;rw[<-an,<-al,<-ah,<-ag];replace C:=ao C;replace D:=ao D;clear an ag ah al Z;obtain⟨⟨av,aw,ay,aA⟩,_,⟨y0,y1,y2,aB⟩,_⟩:=D.out s (am _ _);have I:Hid (ai s s.drew):=(am _ _).drew;have P:Hid (∀W,ai s W->(W.cell? ⟨d,0,none⟩=some (ab g)/\W.cell? ⟨d,1,none⟩=some (ab h)/\W.cell? ⟨d,2,none⟩=some (ae i)/\W.cell? ⟨d,3,none⟩=some (.slice pa pl pc))/\(W.cell? ⟨e,0,none⟩=some (ab s0)/\W.cell? ⟨e,1,none⟩=some (ab s1)/\W.cell? ⟨e,2,none⟩=some (ae q)/\W.cell? ⟨e,3,none⟩=some (.slice sa sl sc))):=λW G=>⟨(D.out W G).1,(D.out W G).2.2.1⟩
 go_region_held3 (λW=>(W.cell? ⟨d,0,none⟩=some (ab g)/\W.cell? ⟨d,1,none⟩=some (ab h)/\W.cell? ⟨d,2,none⟩=some (ae i)/\W.cell? ⟨d,3,none⟩=some (.slice pa pl pc))/\(W.cell? ⟨e,0,none⟩=some (ab s0)/\W.cell? ⟨e,1,none⟩=some (ab s1)/\W.cell? ⟨e,2,none⟩=some (ae q)/\W.cell? ⟨e,3,none⟩=some (.slice sa sl sc)))
  (first|(go_keep;done)|exact P.out _ I.out|exact P.out _ T.out|exact P.out _ O.out) ((first
   | (go_at_call 137;refine(AF _).mono ?_;rintro aa a6 ⟨rfl,V⟩;have O:=ao (I.out.trans (V.out.1.mono I.out.size)))
   | (go_at_call 136;refine(Y.out _ _ (C.out.trans (I.out.mono C.out.size)) V.out).mono ?_;rintro aa au ⟨aF,aY,aI,a1,rfl,J⟩;have T:=ao (O.out.trans (J.out.1.mono O.out.size)))))
 have H:=ao (C.out.trans (T.out.mono C.out.size));clear av aw ay aA y0 y1 y2 aB P V O I Y;cases S with
 | none=>
  obtain⟨rfl,rfl⟩:aY=0/\a1=false:=J.out.2.1 (by simp);clear J;go_wp2_with fail
  go_ret2
  exact⟨none,0,0,false,rfl,H.out,λ_=>rfl,λb aL=>by cases aL⟩
 | some b=>
  obtain⟨aQ,aO,ad,a3,ap,aT,X⟩:=J.out.2.2 b trivial rfl;subst aQ aO;have aE:=ao (aC.out b ap aF aI a3 au H.out rfl ad X);have aD:=ao X.2.2.2.2.1;obtain⟨_,⟨av,aw,ay,aA⟩,_,y0,y1,y2,aB⟩:=D.out au T.out;clear X J ad aT;go_wp2_with fail;refine aE.out.mono ?_;rintro aa a7 ⟨aG,aZ,aJ,a2,rfl,U⟩;go_wp2_with fail
  go_ret2
  refine⟨aG,aZ,aJ,a2,rfl,H.out.trans (U.out.1.mono H.out.size),(λaK=>by cases aK),λa5 aM=>?_⟩;cases aM;refine⟨ap,aD.out,λaP=>(U.out.2.1 (by simp[aP])).2,λaH aN=>?_⟩;obtain⟨aU,aV,aW,a4,a0,aX,kc⟩:=U.out.2.2 aH trivial aN;exact⟨aU,aV,aW,a4,a0,ax H.out.size aX,kc⟩
theorem KG{n:Nat}{p l:List (Tm n)}{w w':World}{a:Option Addr}{c:Nat}(i:gA n p w w' a c l):ft w'.heap.size w' n l a:=by
 obtain⟨_,_,_,_,_,k⟩:=i;rcases k with d|⟨b,o,d,_,j,e⟩
 ·exact ag d
 ·exact ah ⟨b,o,d,j,λg h f=>⟨(e g h f).1,(e g h f).2.1⟩⟩
theorem qH{y:An}(a:BS y):aA y:=aJ.2 (bz.1 a.1).1
theorem BV:∀y∈ni 1 (List.replicate 4 eW),BS y:=by
 intro y a;simp only[ni,bU,List.mem_replicate]at a;obtain⟨b,⟨_,rfl⟩,rfl⟩:=a;exact⟨xG,ag rfl⟩
theorem eR{n:Nat}{x:Tm n}(a:bq n x=0):(av n x).length<=2097152:=ax (nu a) (by omega)
theorem Ga(n m k:Nat)(c:Cl (n+1))(s:Tm (m+1))(t:Tm (k+1))(B:Nat)(w:World)(C:gL (n+1) B w c)(K:In B w (m+1) s)(L:In B w (k+1) t)(a:B<=w.heap.size)(u:bq (n+1) c.1.1=0)(v:bq (n+1) c.1.2.1=0)(p:bq (m+1) s=0)(x:jD (m+1) s=true)(y:bq (k+1) t=0)(H:jD (k+1) t=true):ak 101 #[.agg (eO (n+1) c).toArray,df (m+1) s,df (k+1) t] w (G6 (gN (n+1) c.1.1 (m+1) s (ni 1 (List.replicate 4 eW))) (gN (n+1) c.1.2.1 (k+1) t) w):=by
 refine CX c.1.1.1.1 c.1.1.1.2.1 c.1.2.1.1.1 c.1.2.1.1.2.1 c.1.2.2.1.1 c.1.2.2.1.2.1 s.1.1 s.1.2.1 t.1.1 t.1.2.1 c.1.1.1.2.2 c.1.2.1.1.2.2 c.1.2.2.1.2.2 s.1.2.2 t.1.2.2 c.1.1.2.1.1 c.1.2.1.2.1.1 c.1.2.2.2.1.1 s.2.1.1 t.2.1.1 c.2.1.1
  c.1.1.2.2.length c.1.1.2.1.2 c.1.2.1.2.2.length c.1.2.1.2.1.2 c.1.2.2.2.2.length c.1.2.2.2.1.2 s.2.2.length s.2.1.2 t.2.2.length t.2.1.2 c.2.2.length c.2.1.2 _ _ w ?_ ?_
 ·intro r d z i;have h:=z.trans (i.1.mono z.size)
  have e:=wh (n+1) (m+1) 1 c.1.1 s (List.replicate 4 eW) (some ⟨r.heap.size,0,none⟩) 4 d.heap.size d ((C.1.1.below (h.mono a)).mono (ax a h.size)) ((K.below (h.mono a)).mono (ax a h.size)) (KG i) (aj _) (eR u) (eR p) (λj f=>by
   rw[(List.mem_replicate.1 f).2]
   exact eR xG) (by simp)
  have o:sR (bq (n+1) c.1.1) (bq (m+1) s) (jD (m+1) s) (fV 1 (List.replicate 4 eW))=0:=by
   rw[u,p,x,Ho];rfl
  rw[o]at e;exact e
 ·intro b l E F r d g J G i;have q:=ku BS nH (n+1) c.1.1 (m+1) s ⟨p,ah (by rw[fj];exact x)⟩ (ni 1 (List.replicate 4 eW)) b ⟨by simp[ni],BV⟩ J;obtain⟨I,D,M,N⟩:=D0 i (λj f=>qH (q.2 j f)) G;have A:=xb q.2 D q.1 M;have e:=wh (n+1) (k+1) (mr b) c.1.2.1 t l E F d.heap.size d ((C.1.2.1.below (g.mono a)).mono (ax a g.size)) ((L.below (g.mono a)).mono (ax a g.size)) I (aj _) (eR v) (eR y) (λj f=>eR ((gQ A).2 j f).1) (by omega);have o:sR (bq (n+1) c.1.2.1) (bq (k+1) t) (jD (k+1) t) (fV (mr b) l)=0:=by
   rw[v,y,H,A];rfl
  rw[o,D]at e;exact e
def vN(N:Nat)(o:Option (Tm (N+1)))(w:World)(e:Ending)(w':World):Prop:=
 ∃a:Tm (N+1),e=.returned (.tuple #[.agg #[ab a.1.1,ab a.1.2.1,ae a.1.2.2,.slice a.2.1.1 a.2.2.length a.2.1.2],.bool o.isSome])/\Hid (ai w w'/\In w'.heap.size w' (N+1) a/\bZ (λb=>w.heap.size<=b) (N+1) a/\aw (N+1) a (N+1) (o.getD (vp N))=true)
theorem Jr{N:Nat}{E:Int}{o:Option (Tm N)}:(Et E (np E o)==0)=(np E o).isSome:=by
 unfold Et;by_cases a:E=0
 ·rw[if_pos a];cases (np E o).isSome<;>simp
 ·rw[if_neg a];have:np E o=none:=by unfold np;rw[if_neg a]
  rw[this];simp[a]
theorem Bz{N:Nat}(y:Tm (N+1)):df (N+1) y=.agg #[ab y.1.1,ab y.1.2.1,ae y.1.2.2,.slice y.2.1.1 y.2.2.length y.2.1.2]:=rfl
theorem Kd{w w':World}{t:TypeId}{v0 v1 v2 v3:Value}(b:Below (w.alloc (.cells #[v0,v1,v2,v3] t)).drew.heap.size (w.alloc (.cells #[v0,v1,v2,v3] t)).drew w'):w'.cell? ⟨w.heap.size,0,none⟩=some v0/\w'.cell? ⟨w.heap.size,1,none⟩=some v1/\w'.cell? ⟨w.heap.size,2,none⟩=some v2/\w'.cell? ⟨w.heap.size,3,none⟩=some v3/\w'.frozen? ⟨w.heap.size,0,none⟩=false/\w'.frozen? ⟨w.heap.size,1,none⟩=false/\w'.frozen? ⟨w.heap.size,2,none⟩=false/\w'.frozen? ⟨w.heap.size,3,none⟩=false:=by
 have a:=(b.block w.heap.size (by simp[World.drew])).trans (az w (.cells #[v0,v1,v2,v3] t));exact⟨af a 0,af a 1,af a 2,af a 3,by simp[World.frozen?,a],by simp[World.frozen?,a],by simp[World.frozen?,a],by simp[World.frozen?,a]⟩
theorem MJ{w w':World}{t:TypeId}{v0 v1 v2 v3:Value}(a:Below (w.alloc (.cells #[v0,v1,v2,v3] t)).drew.heap.size (w.alloc (.cells #[v0,v1,v2,v3] t)).drew w'):w'.heap[w.heap.size]?=some (.cells #[v0,v1,v2,v3] t):=
 (a.block w.heap.size (by simp[World.drew])).trans (az w (.cells #[v0,v1,v2,v3] t))
theorem rI{w:World}{g:Nat}{t:TypeId}{b c d e:Value}(a:w.heap[g]?=some (.cells #[b,c,d,e] t))(v0 v1 v2 v3:Value):(cG w g 0 v0 v1 v2 v3).heap[g]?=some (.cells #[v0,v1,v2,v3] t):=by
 simp[cG,World.setCell,bG,a]
def vM(N:Nat)(y:Tm (N+1))(w0:World)(q p:Nat)(w2 b:World):Prop:=
 ai w0 b/\b.heap[p]?=some (.cells #[ab y.1.1,ab y.1.2.1,ae y.1.2.2,.slice y.2.1.1 y.2.2.length y.2.1.2] 30)/\p≠q/\(∀a,a<w2.heap.size->a≠p->b.heap[a]?=w2.heap[a]?)/\bZ (λa=>w0.heap.size<=a/\a<w2.heap.size/\a≠p) (N+1) y
theorem vM.cells{N:Nat}{y:Tm (N+1)}{w0 w2 a:World}{q p:Nat}(c:vM N y w0 q p w2 a)(d:q<w0.heap.size){t:TypeId}{v0 v1 v2 v3:Value}(e:w0.heap[q]?=some (.cells #[v0,v1,v2,v3] t)):(a.cell? ⟨p,0,none⟩=some (ab y.1.1)/\a.cell? ⟨p,1,none⟩=some (ab y.1.2.1)/\a.cell? ⟨p,2,none⟩=some (ae y.1.2.2)/\a.cell? ⟨p,3,none⟩=some (.slice y.2.1.1 y.2.2.length y.2.1.2))/\ (a.cell? ⟨q,0,none⟩=some v0/\a.cell? ⟨q,1,none⟩=some v1/\a.cell? ⟨q,2,none⟩=some v2/\a.cell? ⟨q,3,none⟩=some v3)/\a.frozen? ⟨q,0,none⟩=false/\a.frozen? ⟨q,1,none⟩=false/\a.frozen? ⟨q,2,none⟩=false/\a.frozen? ⟨q,3,none⟩=false/\p≠q:=by
 have b:=(c.1.block q d).trans e;exact⟨⟨af c.2.1 0,af c.2.1 1,af c.2.1 2,af c.2.1 3⟩,⟨af b 0,af b 1,af b 2,af b 3⟩,by simp[World.frozen?,b],by simp[World.frozen?,b],by simp[World.frozen?,b],by simp[World.frozen?,b],c.2.2.1⟩
theorem vM.close{N:Nat}{y:Tm (N+1)}{E:Int}{o:Option (Tm (N+1))}{w w0 w2 d:World}{q p:Nat}(f:vM N y w0 q p w2 d)(b:ai w w0)(k:w.heap.size<=q)(t:q<w0.heap.size)(j:In w2.heap.size w2 (N+1) y)(l:aw (N+1) y (N+1) ((np E o).getD (vp N))=true){v0 v1 v2 v3:Value}(m:w2.heap.size<=d.heap.size):vN N (np E o) w (.returned (.tuple #[.agg #[ab y.1.1,ab y.1.2.1,ae y.1.2.2,.slice y.2.1.1 y.2.2.length y.2.1.2],.bool (Et E (np E o)==0)])) (cG d q 0 v0 v1 v2 v3):=by
 obtain⟨g,n,r,h,e⟩:=f;have i:=b.trans (g.mono b.size);have s:=b.size;refine⟨y,by rw[Jr],cT i k _ _ _ _,?_,e.mono λa c=>by omega,l⟩;rw[bj];exact(In.off (P:=λa=>w0.heap.size<=a/\a<w2.heap.size/\a≠p) (λa c=>(aT (by omega) _ _ _ _).trans (h a c.2.1 c.2.2)) e j).mono m
theorem xR(N:Nat)(E:Int)(o:Option (Tm (N+1)))(r s:Int)(t:ByteArray)(xa:Option Addr)(u xc:Nat)(a:Option Addr)(c:Nat)(self:Int)(f:Nat)(w:World)(ap:f<w.heap.size)(C:w.cell? ⟨f,0,none⟩=some (.slice a 4 c))(d1:w.cell? ⟨f,1,none⟩=some (ab self))(K:Hid (∀W,ai w W->ak 139 #[.agg #[ab r,ab s,ae t,.slice xa u xc],.slice a 4 c,ab self] W (zi N E o W))):ak 103 #[.pointer (some ⟨f,0,none⟩),.agg #[ab r,ab s,ae t,.slice xa u xc]] w (vN N (np E o) w):=by
 have Y:Hid (∃d g y,(d=(w.alloc (.cells #[ab r,ab s,ae t,.slice xa u xc] 30)).alloc (.cells #[ab 0,ab 0,ae ⟨#[]⟩,.slice none 0 0] 30)/\g=w.heap.size/\y=w.heap.size+1)/\(g<d.heap.size/\f<d.heap.size/\y<d.heap.size/\w.heap.size<=y)/\ai w d/\d.heap[y]?=some (.cells #[ab 0,ab 0,ae ⟨#[]⟩,.slice none 0 0] 30)/\∀W,ai d W->(W.cell? ⟨g,0,none⟩=some (ab r)/\W.cell? ⟨g,1,none⟩=some (ab s)/\W.cell? ⟨g,2,none⟩=some (ae t)/\W.cell? ⟨g,3,none⟩=some (.slice xa u xc))/\W.cell? ⟨f,0,none⟩=some (.slice a 4 c)/\W.cell? ⟨f,1,none⟩=some (ab self)):=by
  have an:ai w ((w.alloc (.cells #[ab r,ab s,ae t,.slice xa u xc] 30)).alloc (.cells #[ab 0,ab 0,ae ⟨#[]⟩,.slice none 0 0] 30)):=((am _ _).alloc (aj _) _).alloc (by simp) _;have aw:=az (w.alloc (.cells #[ab r,ab s,ae t,.slice xa u xc] 30)) (.cells #[ab 0,ab 0,ae ⟨#[]⟩,.slice none 0 0] 30);rw[gK]at aw;refine⟨_,_,_,⟨rfl,rfl,rfl⟩,⟨by simp;omega,by simp;omega,by simp,by omega⟩,an,aw,λW ah=>?_⟩;have L:=(ah.block w.heap.size (by simp;omega)).trans ((((am _ _).alloc (aj _) _).block w.heap.size (by simp)).trans (az w (.cells #[ab r,ab s,ae t,.slice xa u xc] 30)));have al:ai w W:=an.trans (ah.mono (by simp;omega));exact⟨⟨af L 0,af L 1,af L 2,af L 3⟩,(al.cell (p:=⟨f,0,none⟩) ap).trans C,(al.cell (p:=⟨f,1,none⟩) ap).trans d1⟩
 go_enter Tryz.func103,Tryz.ntmps103;go_wp2_with fail;obtain⟨d,g,y,⟨av,aq,au⟩,i,n,J,h⟩:=Y.out;rw[<-av,<-au,<-aq];replace i:=ao i;replace n:=ao n;replace J:=ao J;replace h:=ao h;clear av aq au Y C d1;obtain⟨⟨Z,aa,ad,ag⟩,C,d1⟩:=h.out d (am _ _);have x:Hid (ai d d.drew):=(am _ _).drew;have z:Hid (∀o:Obj,ai d (d.alloc o).drew):=λo=>((am _ _).alloc (aj _) o).drew;have O:Hid (∀o:Obj,ai w (d.alloc o).drew):=λo=>n.out.trans ((z.out o).mono n.out.size);have P:=ao (n.out.trans (x.out.mono n.out.size))
 go_region_held3 (λW=>(W.cell? ⟨g,0,none⟩=some (ab r)/\W.cell? ⟨g,1,none⟩=some (ab s)/\W.cell? ⟨g,2,none⟩=some (ae t)/\W.cell? ⟨g,3,none⟩=some (.slice xa u xc))/\W.cell? ⟨f,0,none⟩=some (.slice a 4 c)/\W.cell? ⟨f,1,none⟩=some (ab self))
  (first|(go_keep;done)|exact h.out _ x.out|exact h.out _ (z.out _)|exact h.out _ (j.out.alloc j.out.size _)|exact h.out _ ((((j.out.setCell (aj _) _).setCell (aj _) _).setCell (aj _) _).setCell (aj _) _)|exact h.out _ j.out) ((first
   | (go_at_call 139;refine(K.out _ P.out).mono ?_;rintro aD q ⟨b,rfl,e⟩;rw[Bz];have j:=ao (x.out.trans (e.out.1.mono x.out.size)))
   | (go_at_call 139;refine(K.out _ (O.out _)).mono ?_;rintro aD q ⟨b,rfl,e⟩;rw[Bz];have j:=ao ((z.out _).trans (e.out.1.mono (z.out _).size));have ax:=ao (MJ e.out.1);obtain⟨F,G,H,I,T,U,V,X⟩:=Kd e.out.1)))
 ·have B:Hid (∃m p,(m=q.alloc (.cells #[ab b.1.1,ab b.1.2.1,ae b.1.2.2,.slice b.2.1.1 b.2.2.length b.2.1.2] 30)/\p=q.heap.size)/\vM N b d y p q m):=by
    refine⟨_,_,⟨rfl,rfl⟩,j.out.alloc j.out.size _,az _ _,?_,λM A _=>((am _ _).alloc (aj _) _).block M A,?_⟩
    ·have:=i.out.2.2.1;have:=j.out.size;omega
    ·exact(In.offB e.out.2.2.1 e.out.2.1).mono λM A=>by have:=x.out.size;omega
  obtain⟨m,p,⟨l,D⟩,k⟩:=B.out;rw[<-l,<-D];replace k:=ao k;have Q:=ao e.out.2.1;have R:=ao e.out.2.2.2;have S:Hid (q.heap.size<=m.heap.size):=by
   rw[l];simp[Hid]
  clear l D B e K h z O P x Z aa ad ag C d1;obtain⟨⟨ay,aA,aB,aC⟩,⟨F,G,H,I⟩,T,U,V,X,aE⟩:=k.out.cells i.out.2.2.1 J.out;go_wp2_with fail;exact ar (v:=.tuple #[.agg #[ab b.1.1,ab b.1.2.1,ae b.1.2.2,.slice b.2.1.1 b.2.2.length b.2.1.2],.bool (Et E (np E o)==0)]) (by simp[results,Tryz.results103,go_sem,F,G,H,I]) rfl (k.out.close n.out i.out.2.2.2 i.out.2.2.1 Q.out R.out S.out)
 ·have B:Hid (∃m p,(m=cG q d.heap.size 0 (ab b.1.1) (ab b.1.2.1) (ae b.1.2.2) (.slice b.2.1.1 b.2.2.length b.2.1.2)/\p=d.heap.size)/\vM N b d y p q m):=by
    refine⟨_,_,⟨rfl,rfl⟩,((((j.out.setCell (aj _) _).setCell (aj _) _).setCell (aj _) _).setCell (aj _) _),?_,?_,λM _ A=>aT A _ _ _ _,?_⟩
    ·exact rI ax.out _ _ _ _
    ·have:=i.out.2.2.1;omega
    ·exact(In.offB e.out.2.2.1 e.out.2.1).mono λM A=>by
       have:=A.1;simp[World.drew]at this;omega
  obtain⟨m,p,⟨l,D⟩,k⟩:=B.out;replace k:=ao k;have Q:=ao e.out.2.1;have R:=ao e.out.2.2.2;have S:Hid (q.heap.size<=m.heap.size):=by
   rw[l,bj];exact aj _
  unfold cG at l;simp only[cP]at l;rw[<-l,<-D];clear l D B e K h z O P x Z aa ad ag C d1 F G H I T U V X;obtain⟨⟨ay,aA,aB,aC⟩,⟨F,G,H,I⟩,T,U,V,X,aE⟩:=k.out.cells i.out.2.2.1 J.out;go_wp2_with fail;exact ar (v:=.tuple #[.agg #[ab b.1.1,ab b.1.2.1,ae b.1.2.2,.slice b.2.1.1 b.2.2.length b.2.1.2],.bool (Et E (np E o)==0)]) (by simp[results,Tryz.results103,go_sem,F,G,H,I]) rfl (k.out.close n.out i.out.2.2.2 i.out.2.2.1 Q.out R.out S.out)
def Ee{N:Nat}:Option (Tm (N+1))->Bool
 | some a=>a.1.1==3
 | none=>false
theorem zS(N:Nat)(o:Option (Tm (N+1)))(a d:Int)(f:ByteArray)(xa:Option Addr)(g xc:Nat)(q:Nat)(w:World)(p:Hid (∀W,ai w W->ak 103 #[.pointer (some ⟨q,0,none⟩),.agg #[ab a,ab d,ae f,.slice xa g xc]] W (vN N o W))):ak 174 #[.pointer (some ⟨q,0,none⟩),.agg #[ab a,ab d,ae f,.slice xa g xc]] w λe w'=>∃r,e=.returned (.tuple #[ab r,.bool (Ee o)])/\Hid (ai w w'/\∀b,o=some b->r=b.1.2.1):=by
 have h:Hid (∀o:Obj,ai w (w.alloc o)):=λo=>(am _ _).alloc (aj _) o;have s:(w.alloc (.cells #[ab a,ab d,ae f,.slice xa g xc] 30)).cell? ⟨w.heap.size,0,none⟩=some (ab a):=af (az w _) 0;go_enter Tryz.func174,Tryz.ntmps174;go_wp2_with fail;refine(p.out _ (h.out _)).mono ?_;rintro e v ⟨x,rfl,i⟩;have l:=ao ((h.out (.cells #[ab a,ab d,ae f,.slice xa g xc] 30)).trans (i.out.1.mono (h.out _).size));have n:=ao i.out.2.2.2;have m:Hid (∀k:Obj,ai w (v.alloc k).drew):=λk=>(l.out.alloc l.out.size k).drew;clear i p s;cases o with
 | none=>
  simp only[mm];go_wp2_with fail;go_region
  all_goals
   go_wp2_with fail
   go_ret2
   exact⟨_,rfl,m.out _,λb j=>by cases j⟩
 | some b=>
  simp only[mn];have c:=n.out;simp only[Option.getD_some,aw,aB,bV]at c;have t:Hid (Ee (some b)=(x.1.1==3)):=by
   show _=_;rw[c.1.1.1];rfl
  have u:=ao c.1.1.2;clear c n;go_wp2_with fail;go_region
  all_goals
   go_wp2_with fail
   go_ret2
   rw[t.out];exact⟨_,rfl,m.out _,λy j=>by cases j;exact u.out⟩
theorem K6:(Tryz.prog.info? 3).map (λi=>(i.zero,i.size,i.bytes))=some (some (ab 0),1,8):=by kernel_rfl
def NE(base i:Nat)(f:Option Addr)(L g:Nat)(xs:List Value)(t:Bool)(h:Int->Prop)(w:World)(e:Ending)(w':World):Prop:=
 e=.returned (.bool t)/\(t=false->ai w w')/\
  (t=true->∃d a c b,h d/\b.ownsRow base 3 1 (.slice (some ⟨a,0,none⟩) (L+1) c) (L+1) (xs++ [ab d])/\bk (λj=>(Value.slice f L g).ownBlock=some j) w b/\((Value.slice f L g).ownBlock=some a\/w.heap.size<=a)/\w'=b.setCell ⟨i,5,none⟩ (.slice (some ⟨a,0,none⟩) (L+1) c))
theorem FF(k u v:Int)(x:ByteArray)(xa:Option Addr)(y xc:Nat)(y0 y1:Int)(y2:ByteArray)(ya:Option Addr)(yl yc:Nat)(nm:ByteArray)(O:Int)(base a:Nat)(b:Option Addr)(L c:Nat)(xs:List Value)(w:World)(t:Bool)(z:Int->Prop)(al:L<=10000)(G:a<w.heap.size)(an:base<=w.heap.size)(A:Hid (w.cell? ⟨a,5,none⟩=some (.slice b L c)/\w.frozen? ⟨a,5,none⟩=false))(V:Hid (w.ownsRow base 3 1 (.slice b L c) L xs))(B:Hid ((Value.slice b L c).ownBlock≠some a))(C:Hid (∀W,ai w W->ak 174 #[.pointer (some ⟨a,0,none⟩),.agg #[ab u,ab v,ae x,.slice xa y xc]] W λe w'=>∃f,e=.returned (.tuple #[ab f,.bool t])/\Hid (ai W w'/\z f))):ak 163 #[.pointer (some ⟨a,0,none⟩),.agg #[ab k,ab u,ab v,ae x,.slice xa y xc,ab y0,ab y1,ae y2,.slice ya yl yc,ae nm,ab O]] w (NE base a b L c xs t z w):=by
 obtain⟨j,H,J,K,M⟩:=bQ K6;have n:Hid (Tryz.prog.info? 3=some j/\j.zero=some (ab 0)/\j.size=1/\j.bytes=8):=⟨H,J,K,M⟩;clear H J K M;have D:Hid (∃r,r=w.alloc (.cells #[ab k,ab u,ab v,ae x,.slice xa y xc,ab y0,ab y1,ae y2,.slice ya yl yc,ae nm,ab O] 224)/\ai w r):=⟨_,rfl,(am _ _).alloc (aj _) _⟩;go_enter Tryz.func163,Tryz.ntmps163;go_wp2_with fail;obtain⟨r,N,F⟩:=D.out;rw[<-N];have m:=ao F;clear N F D;refine(C.out _ m.out).mono ?_;rintro e l ⟨f,rfl,q⟩;have d:=ao (m.out.trans (q.out.1.mono m.out.size));have Q:=ao q.out.2;clear q C m;cases t
 ·go_wp2_with fail
  go_ret
  exact⟨rfl,λ_=>d.out,λh=>(by cases h)⟩
 ·have X:l.cell? ⟨a,5,none⟩=some (.slice b L c):=(d.out.cell (p:=⟨a,5,none⟩) G).trans A.out.1;have T:Hid (l.ownsRow base 3 1 (.slice b L c) L xs):=aY V.out (aD d.out λ_=>False) λ_ _ h=>h;have g:=ao d.out.size;have R:Hid (l.frozen? ⟨a,5,none⟩=false):=by
   have i:=A.out.2;unfold World.frozen? at i ⊢;rw[d.out.block a G];exact i
  go_wp2_with (first
   | (at_builtin;refine wpList_append_lies _ rfl _ _ 44 rfl base 3 j _ 1 8 Tryz.underlying44 n.out.1 n.out.2.1 n.out.2.2.1 n.out.2.2.2 rfl (by decide) (.slice b L c) L xs rfl (T.out.alloc _) ⟨l.heap.size,0,none⟩ 1 1 [ab f] rfl rfl (World.news_of_block (cs:= #[ab f]) (t:=3) (fr:=(0,0)) (az l _)) (by simp[Value.oneCell']) (by decide) (by unfold maxLen;omega) (by omega) (by have:=g.out;simp;omega) _ rfl ?_;intro Z Y s I o E aa;have U:=ao I;have S:=ao o;have P:=ao E;have ad:s.cell? ⟨a,5,none⟩=some (.slice b L c):=(o.cell_far ⟨a,5,none⟩ (by show a<_;have:=g.out;simp;omega) (λe=>B.out e.symm)).trans (((am _ _).alloc (aj _) _ |>.cell (p:=⟨a,5,none⟩) (by show a<_;have:=g.out;omega)).trans X);have af:s.frozen? ⟨a,5,none⟩=false:=(o.frozen_far ⟨a,5,none⟩ (by show a<_;have:=g.out;simp;omega) (λe=>B.out e.symm)).trans (by have i:=R.out;unfold World.frozen? at i ⊢;rw[((am _ _).alloc (aj _) (.cells #[ab f] 3)).block a (by have:=g.out;omega)];exact i);clear I o E aa))
  go_ret
  refine⟨rfl,λh=>(by cases h),λ_=>⟨f,Z,Y,s,Q.out,U.out,?_,?_,rfl⟩⟩
  ·exact bk.trans (aD (d.out.alloc d.out.size _) _) (dR S.out) λ_ _ e=>e
  ·rcases P.out with e|e
   ·exact ag e
   ·have:=g.out;simp at e;exact ah (by omega)
section
variable {P:Program} {ops:Array Oper} {Q:Exit->Act->World->Prop} {md:Region.Mode} {S:World->Prop} {X:Nat}
def js(P:Program)(md:Region.Mode)(ops:Array Oper)(Q:Exit->Act->World->Prop)(S:World->Prop)(X:Nat):Nat->Array Bool->Act->World->Prop
 | 0,listed,a,w=>Region.ready md ops listed=[]/\Q .normal a w
 | fuel+1,listed,a,w=>
  (Region.ready md ops listed=[]->Q .normal a w)/\
  ∀i∈Region.ready md ops listed,wpOp P ops Q i (λb w'=>(i≠X->S w')/\js P md ops Q S X fuel (listed.setIfInBounds i true) b w') a w
theorem vn:∀(fuel:Nat)(b:Array Bool)(a:Act)(w:World),js P md ops Q S X fuel b a w->wpAny P md ops Q fuel b a w
 | 0,_,_,_,h=>h
 | fuel+1,_,_,_,h=>⟨h.1,λi e=>wpOp_mono (λc w' d=>vn fuel _ c w' d.2) (h.2 i e)⟩
theorem yW{i:Nat}{m:Oper}{v:Value}(z:ops[i]?=some m)(G:∀(j:Nat)(o:Oper) cs b,ops[j]?=some o->o.op≠.select cs b)(L:∀c a w,Q (.panic c) (a.put m.dst v) w->Q (.panic c) a w)(M:∀d,ops[X]?=some d->∃e∈d.after,Region.binds md e=true/\e.on=i):∀(p:Nat)(f:Array Bool)(a:Act)(w:World),(∀j d,ops[j]?=some d->j≠i->f.getD j true=false->(∀e∈d.after,Region.binds md e=true->e.on≠i)->m.apart ops d=true)-> i∈Region.ready md ops f->YieldsIf P ops S m v a->S w-> js P md ops Q S X p (f.setIfInBounds i true) (a.put m.dst v) w->js P md ops Q S X (p+1) f a w:=by
 intro p
 induction p with
 | zero=>
  intro f a w _ l u q n;refine⟨λx=>(by rw[x]at l;cases l),λj s=>?_⟩;by_cases g:j=i
  ·subst g;exact u.wpOp z q ⟨λ_=>q,n⟩
  ·have:=ready_mono s g;rw[n.1]at this;cases this
 | succ p ih=>
  intro f a w B l u q n;refine⟨λx=>(by rw[x]at l;cases l),λj s=>?_⟩;by_cases g:j=i
  ·subst g;exact u.wpOp z q ⟨λ_=>q,n⟩
  ·have h:=n.2 j (ready_mono s g);obtain⟨D,d,t,N⟩:=mem_ready.1 s;have F:∀e∈d.after,Region.binds md e=true->e.on≠i:=λe T O V=>by
    have h:=N e T O;have A:=(mem_ready.1 l).1;rw[V]at h;rcases Nat.lt_or_ge i f.size with y|y
    ·simp[y]at A h;rw[A]at h;cases h
    ·simp[Array.getElem?_eq_none y]at h
   have E:j≠X:=λe=>by
    obtain⟨J,U,R,ab⟩:=M d (by rw[<-e];exact t);exact F J U R ab
   have K:=wpOp_putIf t (B j d t g D F) (λcs b=>G i m cs b z) (λcs b=>G j d cs b t) L u h
   have W:∀k ok,ops[k]?=some ok->k≠i->(f.setIfInBounds j true).getD k true=false->
     (∀e∈ok.after,Region.binds md e=true->e.on≠i)->m.apart ops ok=true:=λk ok Y Z H aa=>by
    refine B k ok Y Z ?_ aa;by_cases C:j=k
    ·subst C;exact D
    ·rw[getD_set_ne true C]at H;exact H
   refine wpOp_mono (λI ad r=>⟨λ_=>r.2.1 E,ih (f.setIfInBounds j true) I ad W (ready_mono l (Ne.symm g)) r.1 (r.2.1 E) ?_⟩) K;rw[Array.setIfInBounds_comm _ _ g];exact r.2.2
def yU(md:Region.Mode)(ops:Array Oper)(X i:Nat):Bool:=((ops[X]?).map λo=>o.after.any λe=>Region.binds md e && e.on==i).getD false
theorem DD{i:Nat}(a:yU md ops X i=true):∀b,ops[X]?=some b->∃e∈b.after,Region.binds md e=true/\e.on=i:=λb c=>by
 unfold yU at a;rw[c]at a;simp only[Option.map_some,Option.getD_some,Array.any_eq_true]at a;obtain⟨k,d,a⟩:=a;simp only[aB,bV]at a;exact⟨_,Array.getElem_mem d,a.1,a.2⟩
theorem aO{i:Nat}{d:Oper}{v:Value}{e:Nat}{b:Array Bool}{a:Act}{w:World}(f:ops[i]?=some d)(n:Region.noSelect ops=true)(k:Region.free md ops b i=true)(m:(Region.ready md ops b).contains i=true)(o:yU md ops X i=true)(h:∀c a w,Q (.panic c) (a.put d.dst v) w->Q (.panic c) a w)(l:d.guard=none)(p:∀w,S w->(execOp a.eval d).run P w=.ok (.value v) w)(j:S w)(g:js P md ops Q S X e (b.setIfInBounds i true) (a.put d.dst v) w):js P md ops Q S X (e+1) b a w:=
 yW f (Region.noSelect_spec n) h (DD o) e b a w (Region.free_spec f k) (by simpa using m) (ag ⟨by simp[Region.wanted,l],p⟩) j g
theorem cR{i:Nat}{o:Oper}{d:Nat}{c:Array Bool}{a:Act}{w:World}(h:Region.ready md ops c=[i])(n:ops[i]?=some o)(l:o.guard=none)(j:∀K:Act->World->Prop,Hid (∀b w',(i≠X->S w')->(S w'->js P md ops Q S X d (c.setIfInBounds i true) b w')->K b w')->o.wp P a w K Q)(m:i≠X):js P md ops Q S X (d+1) c a w:=by
 refine⟨λe=>(by rw[h]at e;cases e),λq g=>?_⟩;rw[h]at g;obtain rfl:q=i:=by simpa using g
 unfold wpOp;simp only[n];have p:Region.wanted o (yielded ops a.tmps)=true:=by simp[Region.wanted,l]
 simp only[p,cM];exact ag (j _ λb w' f k=>⟨f,k (f m)⟩)
theorem jc{o:Oper}{c:Nat}{d:Array Bool}{a:Act}{w:World}(i:Region.ready md ops d=[X])(m:ops[X]?=some o)(l:o.guard=none)(g:Region.ready md ops (d.setIfInBounds X true)=[])(j:∀K:Act->World->Prop,Hid (∀b w',Q .normal b w'->K b w')->o.wp P a w K Q):js P md ops Q S X (c+1) d a w:=by
 refine⟨λe=>(by rw[i]at e;cases e),λp h=>?_⟩;rw[i]at h;obtain rfl:p=X:=by simpa using h
 unfold wpOp;simp only[m];have n:Region.wanted o (yielded ops a.tmps)=true:=by simp[Region.wanted,l]
 simp only[n,cM];refine ag (j _ λb w' f=>⟨λk=>absurd rfl k,?_⟩);cases c with
 | zero=>exact⟨g,f⟩
 | succ c=>exact⟨λ_=>f,by rw[g];simp⟩
theorem jd(S:World->Prop)(X:Nat){id:Nat}{a:Act}{w:World}(c:P.follows .mixedOrders=true)(b:js P .any ops Q S X ops.size (Array.replicate ops.size false) a w.drew):(Code.region id ops true).wp P Q a w:=
 wp_region_any c (vn _ _ _ _ b)
end
end Go.Proofs.YtckamaoibonjcaaGreat
