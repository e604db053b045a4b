/- What is proved here: plain facts and contracts that the claimed theorem stands on. No condition but those that each names. -/
import Derived.Test.YtnidfceinoiboaaGreatG02
namespace Go.Proofs.YtnidfceinoiboaaGreat
open Go.RowKit
set_option maxHeartbeats 400000
theorem uP(z:Int):(l:List Nd)->(a:List Int)->(m:Int)->l.length=a.length->xZ z l a m=0->∀y∈l,bT y=true
 | [],_,_,_,_=>by simp
 | x::l,[],_,h,_=>by simp at h
 | x::l,d::a,m,h,h0=>by
  simp only[xZ]at h0;by_cases b:bT x=true
  ·rw[if_pos b]at h0;intro y c;rcases br.1 c with rfl|c
   ·exact b
   ·exact uP z l a _ (by simpa using h) h0 y c
  ·rw[if_neg b]at h0;cases h0
theorem pC(n:Nat)(x:Tm n)(a:bA n x=0):∀y∈aq n x,bT y=true:=
 uP _ _ _ _ (ju n x 0).symm a
theorem nG{n:Nat}{x:Tm (n+1)}{y:Tm n}(b:y∈x.2.2){a:Nd}(c:a∈aq n y):a∈aq (n+1) x:=by
 simp only[aq,br,iU];exact af ⟨y,b,c⟩
theorem jD(x:Nd)(a:bT x=true):x.1.1=1\/x.1.1=2\/x.1.1=3\/x.1.1=4\/x.1.1=5\/(x.1.1=6/\x.1.2.1=0):=by
 by_cases b:x.1.1=1
 ·exact ae b
 by_cases c:x.1.1=2
 ·exact af (ae c)
 by_cases d:x.1.1=3
 ·exact af (af (ae d))
 by_cases e:x.1.1=4
 ·exact af (af (af (ae e)))
 by_cases f:x.1.1=5
 ·exact af (af (af (af (ae f))))
 by_cases g:x.1.1=6
 ·refine af (af (af (af (af ⟨g,?_⟩))));unfold bT at a;rw[if_neg b,if_neg c,if_neg d,if_neg e,if_neg f,if_pos g]at a;simp only[az,ci]at a;exact a.1.2
 ·unfold bT at a;rw[if_neg b,if_neg c,if_neg d,if_neg e,if_neg f,if_neg g]at a;cases a
def av{c d:Type}(f:c->d->Bool):List c->List d->Bool
 | [],[]=>true
 | a::p,b::q=>f a b && av f p q
 | _,_=>false
def aw:(n:Nat)->Tm n->(m:Nat)->Tm m->Bool
 | n+1,x,m+1,y=>x.1.1==y.1.1 && x.1.2.1==y.1.2.1 && x.1.2.2.toList==y.1.2.2.toList && av (λa b=>aw n a m b) x.2.2 y.2.2
 | _,_,_,_=>false
theorem eA{a b:Bool}(c:a=b):Ending.returned (.bool a)=.returned (.bool b):=by rw[c]
theorem BA{c d:Type}(f:c->d->Bool)(p:List c)(q:List d)(k:Nat)(a:c)(b:d)(j:p[k]?=some a)(l:q[k]?=some b):av f (p.drop k) (q.drop k)=(f a b && av f (p.drop (k+1)) (q.drop (k+1))):=by
 obtain⟨h,e⟩:=aK.1 j;obtain⟨i,g⟩:=aK.1 l;rw[eF h,eF i,e,g];rfl
theorem tU{c d:Type}(f:c->d->Bool):(p:List c)->(q:List d)->¬p.length=q.length->av f p q=false
 | [],[],h=>by simp at h
 | [],_::_,_=>rfl
 | _::_,[],_=>rfl
 | a::p,b::q,h=>by
  simp only[av];rw[tU f p q (by simpa using h)];simp
def EV(n:Nat):Prop:=∀(x:Tm n)(m:Nat)(y:Tm m)(B:Nat)(w:World),In B w n x->In B w m y->B<=w.heap.size->
 Calls Tryz.prog 16 #[dg n x,dg m y] w λe w'=>e=.returned (.bool (aw n x m y))/\Below w.heap.size w w'
theorem FD(p q:Nat)(a c:Option Addr)(pc d:Nat)(w:World)(_hpc:p<=9223372036854775807)(_hqc:q<=9223372036854775807)(b:((p:Int)==(q:Int))=false):Calls Tryz.prog 57 #[.slice a p pc,.slice c q d,.func (Fn.func 16) #[] #[]] w λe w'=>e=.returned (.bool false)/\w'=w:=by
 have f:((p:Int) !=(q:Int))=true:=by simpa using b
 go_enter Tryz.func57,Tryz.ntmps57;go_wp2_with fail
 go_ret
 exact⟨rfl,rfl⟩
theorem uU(a c:Option Addr)(pc d:Nat)(w:World):Calls Tryz.prog 57 #[.slice a 0 pc,.slice c 0 d,.func (Fn.func 16) #[] #[]] w λe w'=>e=.returned (.bool true)/\w'=w:=by
 go_enter Tryz.func57,Tryz.ntmps57;go_wp2_with fail
 go_loop [17] (λb=>b=.int .i64 0) (λ_=>0)
 case atStart=>rfl
 case round=>
  obtain rfl:=hrel;go_wp2_with fail
  go_ret
  exact⟨rfl,rfl⟩
theorem FC(n m:Nat)(ih:EV n)(p:List (Tm n))(q:List (Tm m))(len:Nat)(G:Hid (p.length=len))(I:Hid (q.length=len))(s po t J pc N:Nat)(B:Nat)(w:World)(S:len<=9223372036854775807)(L:s<B)(M:t<B)(F:∀(i:Nat)(y:Tm n),p[i]?=some y->dr w s (po+i*4) n y/\In B w n y)(H:∀(i:Nat)(y:Tm m),q[i]?=some y->dr w t (J+i*4) m y/\In B w m y)(g:B<=w.heap.size):Calls Tryz.prog 57 #[.slice (some ⟨s,po,none⟩) len pc,.slice (some ⟨t,J,none⟩) len N,.func (Fn.func 16) #[] #[]] w λe w'=> e=.returned (.bool (av (λa b=>aw n a m b) p q))/\Below w.heap.size w w':=by
 go_enter Tryz.func57,Tryz.ntmps57;go_wp2_with fail;go_loopw [17] (λi wr=>∃k:Nat,k<=len/\i=.int .i64 k/\Below w.heap.size w wr/\Hid (av (λa b=>aw n a m b) (p.drop k) (q.drop k)=av (λa b=>aw n a m b) p q)) (λi _=>len-(intOf i).toNat)
 case atStart=>exact⟨0,by omega,rfl,ah _ _,rfl⟩
 case round=>
  obtain⟨k,P,rfl,d,x⟩:=hrel;by_cases E:k<len
  ·obtain⟨c,z⟩:∃c,p[k]?=some c:=⟨p[k]'(by rw[G.out];exact E),aA _⟩;obtain⟨y,A⟩:∃y,q[k]?=some y:=⟨q[k]'(by rw[I.out];exact E),aA _⟩;obtain⟨j,l⟩:=F k c z;obtain⟨o,r⟩:=H k y A;have h:=ai (BA (λa b=>aw n a m b) p q k c y z A);replace j:=j.below (d.mono g) L;replace o:=o.below (d.mono g) M;replace l:=l.below (d.mono g);replace r:=r.below (d.mono g);clear F H z A;cases n with
   | zero=>exact j.elim
   | succ n=>
   cases m with
   | zero=>exact o.elim
   | succ m=>
   obtain⟨V,W,X,Y⟩:=j;obtain⟨y0,y1,y2,aa⟩:=o;have v:B<=wr.heap.size:=au g d.size
   have K:Hid (∀(f:World),Below wr.heap.size wr f->Calls Tryz.prog 16 #[.agg #[.int .i64 c.1.1,.int .i64 c.1.2.1,.string c.1.2.2,.slice c.2.1.1 c.2.2.length c.2.1.2],.agg #[.int .i64 y.1.1,.int .i64 y.1.2.1,.string y.1.2.2,.slice y.2.1.1 y.2.2.length y.2.1.2]] f λe w'=>e=.returned (.bool (aw (n+1) c (m+1) y))/\Below f.heap.size f w'):=
    λf u=>ih c (m+1) y B f (l.below (u.mono v)) (r.below (u.mono v)) (au v u.size)
   clear ih l r;replace h:Hid (av (λa b=>aw (n+1) a (m+1) b) (p.drop k) (q.drop k)=(aw (n+1) c (m+1) y && av (λa b=>aw (n+1) a (m+1) b) (p.drop (k+1)) (q.drop (k+1)))):=h;generalize aw (n+1) c (m+1) y=O at*;generalize c.2.2.length=Z at*;generalize y.2.2.length=yl at*;have Q:(0:Int)<=(k:Int):=by omega
   have R:(k:Int)<(len:Int):=by omega
   have T:s<wr.heap.size:=by omega
   have U:t<wr.heap.size:=by omega
   go_wp2_with fail;refine(K.out _ (((ah _ _).alloc (ag _) _).alloc (by simp) _)).mono ?_;rintro e f ⟨rfl,C⟩;have D:Below w.heap.size w f:=(d.trans ((((ah _ _).alloc (ag _) _).alloc (by simp) _).mono d.size)).trans (C.mono (by have:=d.size;simp;omega));clear C;cases O with
   | true=>
    go_wp2_with fail;go_roundw
    case rel=>exact⟨k+1,by omega,by go_num,D,by rw[<-x.out,h.out];rfl⟩
    case measure=>simp[intOf];omega
   | false=>
    go_wp2_with fail
    go_ret
    exact⟨eA (by rw[<-x.out,h.out];rfl),D⟩
  ·go_wp2_with fail
   go_ret
   refine⟨eA ?_,d⟩;rw[<-x.out,fJ (by rw[G.out];omega),fJ (by rw[I.out];omega)];rfl
theorem uD(n m:Nat)(ih:EV n)(p:List (Tm n))(q:List (Tm m))(a c:Option Addr)(pc h:Nat)(B:Nat)(w:World)(f:p=[]\/∃b o,a=some ⟨b,o,none⟩/\b<B/\∀(i:Nat)(y:Tm n),p[i]?=some y->dr w b (o+i*4) n y/\In B w n y)(g:q=[]\/∃b o,c=some ⟨b,o,none⟩/\b<B/\∀(i:Nat)(y:Tm m),q[i]?=some y->dr w b (o+i*4) m y/\In B w m y)(l:p.length<=9223372036854775807)(r:q.length<=9223372036854775807)(k:B<=w.heap.size):Calls Tryz.prog 33 #[.slice a p.length pc,.slice c q.length h] w λe w'=>e=.returned (.bool (av (λa b=>aw n a m b) p q))/\Below w.heap.size w w':=by
 have s:Hid (Calls Tryz.prog 57 #[.slice a p.length pc,.slice c q.length h,.func (Fn.func 16) #[] #[]] w λe w'=>
   e=.returned (.bool (av (λa b=>aw n a m b) p q))/\Below w.heap.size w w'):=by
  by_cases d:p.length=q.length
  ·rcases f with f|⟨A,po,rfl,v,f⟩
   ·subst f;have x:q=[]:=bK d.symm;subst x;refine(uU a c pc h w).mono ?_;rintro e w' ⟨rfl,rfl⟩;exact⟨rfl,ah _ _⟩
   ·rcases g with g|⟨C,D,rfl,z,g⟩
    ·subst g;have u:p=[]:=bK d;subst u;refine(uU _ c pc h w).mono ?_;rintro e w' ⟨rfl,rfl⟩;exact⟨rfl,ah _ _⟩
    ·have j:=FC n m ih p q p.length rfl d.symm A po C D pc h B w (by omega) v z f g k;rw[d]at j;rw[d];exact j
  ·rw[tU _ _ _ d];refine(FD p.length q.length a c pc h w l r (by simp;omega)).mono ?_;rintro e w' ⟨rfl,rfl⟩;exact⟨rfl,ah _ _⟩
 clear f g ih l r k;generalize p.length=pl at*;generalize q.length=E at*;generalize av (λa b=>aw n a m b) p q=F at*;go_enter Tryz.func33,Tryz.ntmps33;go_wp2_with fail;refine s.out.mono ?_;rintro e G ⟨rfl,t⟩;go_wp2_with fail
 go_ret
 exact⟨rfl,t⟩
theorem El(w:World)(k b u f:Int)(s d:ByteArray)(a g:Option Addr)(l i c h:Nat)(r:Bool)(H:Hid (∀w1:World,Below w.heap.size w w1->Calls Tryz.prog 33 #[.slice a l c,.slice g i h] w1 λe w'=>e=.returned (.bool r)/\Below w1.heap.size w1 w')):Calls Tryz.prog 16 #[.agg #[.int .i64 k,.int .i64 u,.string s,.slice a l c],.agg #[.int .i64 b,.int .i64 f,.string d,.slice g i h]] w λe w'=>e=.returned (.bool (k==b && u==f && s.toList==d.toList && r))/\Below w.heap.size w w':=by
 cases h1:k==b
 ·go_enter Tryz.func16,Tryz.ntmps16;go_wp2_with fail
  go_ret
  exact⟨rfl,((ah _ _).alloc (ag _) _).alloc (by simp) _⟩
 cases h2:u==f
 ·go_enter Tryz.func16,Tryz.ntmps16;go_wp2_with fail
  go_ret
  exact⟨rfl,((ah _ _).alloc (ag _) _).alloc (by simp) _⟩
 cases h3:s.toList==d.toList
 ·go_enter Tryz.func16,Tryz.ntmps16;go_wp2_with fail
  go_ret
  exact⟨rfl,((ah _ _).alloc (ag _) _).alloc (by simp) _⟩
 go_enter Tryz.func16,Tryz.ntmps16;go_wp2_with fail;refine(H.out _ (((ah _ _).alloc (ag _) _).alloc (by simp) _)).mono ?_;rintro e w1 ⟨rfl,j⟩;go_wp2_with fail
 all_goals go_ret
 all_goals exact⟨rfl,(((ah _ _).alloc (ag _) _).alloc (by simp) _).trans (j.mono (by simp;omega))⟩
theorem GC(n:Nat):EV n:=by
 induction n with
 | zero=>intro y j c p x m;exact m.elim
 | succ n ih=>
  intro y j c p x m a f;cases j with
  | zero=>exact a.elim
  | succ j=>
  obtain⟨⟨k,E,C⟩,⟨q,pc⟩,u⟩:=y;obtain⟨⟨B,F,D⟩,⟨r,w⟩,v⟩:=c;obtain⟨⟨_,_,_,z,s⟩,d⟩:=m;obtain⟨⟨_,_,_,A,t⟩,e⟩:=a;simp only at z s d A t e;unfold maxLen at s t;refine El x k B E F C D q r u.length v.length pc w _ (λG h=>uD n j ih u v q r pc w p G ?_ ?_ (by omega) (by omega) (au f h.size))
  ·rcases d with d|⟨b,o,l,g,d⟩
   ·exact ae d
   ·exact af ⟨b,o,l,g,λi c a=>⟨(d i c a).1.below (h.mono f) g,(d i c a).2.below (h.mono f)⟩⟩
  ·rcases e with e|⟨b,o,l,g,e⟩
   ·exact ae e
   ·exact af ⟨b,o,l,g,λi c a=>⟨(e i c a).1.below (h.mono f) g,(e i c a).2.below (h.mono f)⟩⟩
theorem sT(x y:Int):(x<y/\mJ x y=-1)\/(x=y/\mJ x y=0)\/(y<x/\mJ x y=1):=by
 unfold mJ;by_cases a:x<y
 ·rw[if_pos a];exact ae ⟨a,rfl⟩
 ·rw[if_neg a];by_cases b:y<x
  ·rw[if_pos b];exact af (af ⟨b,rfl⟩)
  ·rw[if_neg b];exact af (ae ⟨by omega,rfl⟩)
theorem Fe:(x y:List UInt8)->Op.bytesLess x y=true->Op.bytesLess y x=false
 | _,[],c=>by simp[Op.bytesLess]at c
 | [],_::_,_=>by simp[Op.bytesLess]
 | a::x,b::y,c=>by
  simp only[Op.bytesLess,gI,bN,az,ci]at c;simp only[Op.bytesLess,Bool.or_eq_false_iff,decide_eq_false_iff_not,Bool.and_eq_false_iff,gP];rcases c with c|⟨rfl,c⟩
  ·rw[nY]at c;refine⟨by rw[nY];omega,ae λe=>by subst e;omega⟩
  ·exact⟨by rw[nY];omega,af (Fe x y c)⟩
theorem Ff:(x y:List UInt8)->Op.bytesLess x y=false->Op.bytesLess y x=false->x=y
 | [],[],_,_=>rfl
 | [],_::_,h,_=>by simp[Op.bytesLess]at h
 | _::_,[],_,h=>by simp[Op.bytesLess]at h
 | a::x,b::y,h,h'=>by
  simp only[Op.bytesLess,Bool.or_eq_false_iff,decide_eq_false_iff_not,Bool.and_eq_false_iff,gP]at h h';obtain⟨c,d⟩:=h;obtain⟨f,g⟩:=h';have e:a=b:=by
   rw[nY]at c f;exact UInt8.toNat_inj.1 (by omega)
  subst e;rw[Ff x y (d.resolve_left (λn=>n rfl)) (g.resolve_left (λn=>n rfl))]
theorem uO(l:List UInt8):Op.bytesLess l l=false:=by
 induction l with
 | nil=>rfl
 | cons a l ih=>simp[Op.bytesLess,ih]
theorem Fr(x y:ByteArray):(Op.bytesLess x.toList y.toList=true/\ut x y=-1)\/(x.toList=y.toList/\ut x y=0)\/(Op.bytesLess y.toList x.toList=true/\ut x y=1):=by
 unfold ut;cases h:Op.bytesLess x.toList y.toList
 ·by_cases a:x.toList=y.toList
  ·rw[a];simp
  ·have c:Op.bytesLess y.toList x.toList=true:=by
     cases h2:Op.bytesLess y.toList x.toList
     ·exact(a (Ff _ _ h h2)).elim
     ·rfl
   have b:(x.toList==y.toList)=false:=by simpa using a
   rw[b];simp[c]
 ·simp
theorem cX{x:Tm 0}(c:∀a∈aq 0 x,bT a=true):False:=by
 have:=c ((0,0,.empty),(none,0,0)) (by simp[aq]);rcases jD _ this with b|b|b|b|b|⟨b,_⟩<;>simp at b
theorem vp{h i:Type}(f:h->i->Int)(g:h->i->Bool):(p:List h)->(q:List i)->p.length=q.length->(∀a∈p,∀b∈q,(f a b=0 ↔ g a b=true))->(oo f p q=0 ↔ av g p q=true)
 | [],[],_,_=>by simp[oo,av]
 | [],_::_,e,_=>by simp at e
 | _::_,[],e,_=>by simp at e
 | a::p,b::q,e,H=>by
  have j:=H a (by simp) b (by simp);have m:=vp f g p q (by simpa using e) (λk n l o=>H k (by simp[n]) l (by simp[o]));simp only[oo,av,az];by_cases d:f a b=0
  ·rw[if_pos d,m];exact⟨λc=>⟨j.1 d,c⟩,λc=>c.2⟩
  ·rw[if_neg d];exact⟨λc=>(d c).elim,λc=>(d (j.2 c.1)).elim⟩
theorem eh(x:Nd)(b:bT x=true):(x.1.1≠2->x.1.2.2.toList=[])/\(x.1.1=2->x.1.2.1=0)/\(x.1.1=4->x.1.2.1=0)/\(x.1.1=6->x.1.2.1=0)/\(x.1.1≠4->x.2.2.1=0):=by
 have c:=jD x b;unfold bT at b;rcases c with a|a|a|a|a|⟨a,d⟩
 all_goals (rw[a]at b ⊢;simp at b ⊢;simp[b])
theorem zq:(n:Nat)->(x:Tm n)->(m:Nat)->(y:Tm m)->(∀a∈aq n x,bT a=true)->(∀a∈aq m y,bT a=true)->(vo n x m y=0 ↔ aw n x m y=true)
 | 0,_,_,_,f,_=>(cX f).elim
 | _+1,_,0,_,_,f=>(cX f).elim
 | n+1,x,m+1,y,hx,hy=>by
  have l:=eh _ (hx (x.1,(x.2.1.1,x.2.2.length,x.2.1.2)) (by simp[aq]));have j:=eh _ (hy (y.1,(y.2.1.1,y.2.2.length,y.2.1.2)) (by simp[aq]));have D:=jD _ (hx (x.1,(x.2.1.1,x.2.2.length,x.2.1.2)) (by simp[aq]));have I:=λe=>vp (λa b=>vo n a m b) (λa b=>aw n a m b) x.2.2 y.2.2 e (λa G b H=>zq n a m b (λd z=>hx d (nG G z)) (λd z=>hy d (nG H z)));simp only at l j D;simp only[vo,aw];have F:=Fr x.1.2.2 y.1.2.2;have M:=sT x.1.2.1 y.1.2.1;have N:=sT x.1.1 y.1.1;have O:=sT x.2.2.length y.2.2.length;obtain⟨⟨k,u,s⟩,⟨a,c⟩,p⟩:=x;obtain⟨⟨C,A,J⟩,⟨K,L⟩,q⟩:=y;simp only at*;clear hx hy;by_cases e:k=C
  ·subst e;rw[if_pos rfl];have o:k≠4->p=[]/\q=[]:=λf=>⟨bK (l.2.2.2.2 f),bK (j.2.2.2.2 f)⟩;have r:k≠2->s.toList=[]/\J.toList=[]:=λf=>⟨l.1 f,j.1 f⟩;rcases D with g|g|g|g|g|⟨g,E⟩
   ·subst g;obtain⟨rfl,rfl⟩:=o (by decide);obtain⟨h,i⟩:=r (by decide);rw[if_pos (by decide),h,i];simp[av];omega
   ·subst g;obtain⟨rfl,rfl⟩:=o (by decide);have B:u=0:=l.2.1 rfl;have t:A=0:=j.2.1 rfl;subst B t;rw[if_neg (by decide),if_pos rfl];simp[av];rcases F with⟨f,w⟩|⟨f,w⟩|⟨f,w⟩
    ·refine⟨λe=>by omega,λe=>?_⟩;rw[e,uO]at f;cases f
    ·exact⟨λ_=>f,λ_=>w⟩
    ·refine⟨λe=>by omega,λe=>?_⟩;rw[e,uO]at f;cases f
   ·subst g;obtain⟨rfl,rfl⟩:=o (by decide);obtain⟨h,i⟩:=r (by decide);rw[if_pos (by decide),h,i];simp[av];omega
   ·subst g;obtain⟨h,i⟩:=r (by decide);have B:u=0:=l.2.2.1 rfl;have t:A=0:=j.2.2.1 rfl;subst B t;rw[if_neg (by decide),if_neg (by decide),if_pos rfl,h,i];by_cases v:p.length=q.length
    ·rw[if_pos v,I v];simp
    ·rw[if_neg v,tU _ _ _ v];simp;omega
   ·subst g;obtain⟨rfl,rfl⟩:=o (by decide);obtain⟨h,i⟩:=r (by decide);rw[if_pos (by decide),h,i];simp[av];omega
   ·subst g;obtain⟨rfl,rfl⟩:=o (by decide);obtain⟨h,i⟩:=r (by decide);have t:A=0:=j.2.2.2.1 rfl;subst E t;rw[if_neg (by decide),if_neg (by decide),if_neg (by decide),h,i];simp[av]
  ·rw[if_neg e];have:(k==C)=false:=by simpa using e
   rw[this];simp;omega
abbrev An:=(n:Nat)×Tm n
def bE:An->Int
 | ⟨0,_⟩=>0
 | ⟨_+1,x⟩=>x.1.1
def dR(x y:An):Bool:=aw x.1 x.2 y.1 y.2
def CX(B:Nat)(w:World)(x:An):Prop:=In B w x.1 x.2
def aB(x:An):Prop:=∀a∈aq x.1 x.2,bT a=true
def gT{a c S:Type}(f:a->c->S->Option S):List a->List c->S->Option S
 | x::p,y::q,b=>(f x y b).bind (gT f p q)
 | _,_,b=>some b
def sZ(b:List An)(i:Nat)(t:An):Option (List An):=
 match b[i]? with
 | some a=>if bE a=6 then some (b.set i t)else if dR a t then some b else none
 | none=>none
def fY:(n:Nat)->Tm n->(m:Nat)->Tm m->List An->Option (List An)
 | n+1,p,m+1,t,b=>
  if p.1.1=6 then some b
  else if p.1.1=5 then sZ b p.1.2.1.toNat ⟨m+1,t⟩
  else if p.1.1=4 then
   if t.1.1=4/\p.2.2.length=t.2.2.length then gT (λx y b=>fY n x m y b) p.2.2 t.2.2 b else none
  else if aw (n+1) p (m+1) t then some b else none
 | _,_,_,_,_=>none
def L9(x y:An)(b:List An):Option (List An):=fY x.1 x.2 y.1 y.2 b
def ke:List (An×An)->List An->Option (List An)
 | [],b=>some b
 | (x,y)::r,b=>(L9 x y b).bind (ke r)
def jo(n m:Nat)(p:List (Tm n))(q:List (Tm m)):List (An×An):=List.zipWith (λx y=>(⟨n,x⟩,⟨m,y⟩)) p q
def sB(P:An->Prop):Prop:=∀(n:Nat)(x:Tm (n+1))(y:Tm n),P ⟨n+1,x⟩->y∈x.2.2->P ⟨n,y⟩
theorem uY{a e S:Type}(f:a->e->S->Option S)(Q:S->Prop):(p:List a)->(q:List e)->(∀x∈p,∀y∈q,∀b c,Q b->f x y b=some c->Q c)->∀b c,Q b->gT f p q b=some c->Q c
 | [],_,_,b,c,hb,h=>by simp[gT]at h;rw[<-h];exact hb
 | _::_,[],_,b,c,hb,h=>by simp[gT]at h;rw[<-h];exact hb
 | x::p,y::q,hf,b,c,hb,h=>by
  simp only[gT]at h;obtain⟨d,g,i⟩:=bz.1 h;exact uY f Q p q (λx' j l k=>hf x' (bR _ j) l (bR _ k)) d c (hf x (by simp) y (by simp) b d hb g) i
theorem Ds(P:An->Prop)(b c:List An)(i:Nat)(t:An)(f:P t)(d:b.length=4/\∀y∈b,P y)(a:sZ b i t=some c):c.length=4/\∀y∈c,P y:=by
 unfold sZ at a;split at a
 ·split at a
  ·obtain rfl:=ap a;refine⟨by simpa using d.1,λy g=>?_⟩;rcases List.mem_or_eq_of_mem_set g with e|rfl
   ·exact d.2 y e
   ·exact f
  ·split at a
   ·obtain rfl:=ap a;exact d
   ·cases a
 ·cases a
theorem mO(P:An->Prop)(d:sB P):(n:Nat)->(p:Tm n)->(m:Nat)->(t:Tm m)->P ⟨m,t⟩->∀b c,(b.length=4/\∀y∈b,P y)->fY n p m t b=some c->(c.length=4/\∀y∈c,P y)
 | 0,_,_,_,_,_,_,_,h=>by simp[fY]at h
 | n+1,_,0,_,_,_,_,_,h=>by simp[fY]at h
 | n+1,p,m+1,t,ht,b,c,a,h=>by
  simp only[fY]at h;split at h
  ·obtain rfl:=ap h;exact a
  split at h
  ·exact Ds P b c _ _ ht a h
  split at h
  ·split at h
   ·exact uY _ _ p.2.2 t.2.2 (λx g y f b c a e=>mO P d n x m y (d m t y ht f) b c a e) b c a h
   ·cases h
  ·split at h
   ·obtain rfl:=ap h;exact a
   ·cases h
theorem Dr{a c S:Type}(f:a->c->S->Option S)(p:List a)(q:List c)(k:Nat)(x:a)(y:c)(i:p[k]?=some x)(j:q[k]?=some y)(b:S):gT f (p.drop k) (q.drop k) b=(f x y b).bind (gT f (p.drop (k+1)) (q.drop (k+1))):=by
 obtain⟨g,d⟩:=aK.1 i;obtain⟨h,e⟩:=aK.1 j;rw[eF g,eF h,d,e];rfl
theorem Gl(B:Nat)(w:World):sB (CX B w):=by
 intro n h i d c;rcases d.2 with a|⟨b,o,j,k,a⟩
 ·have e:h.2.2=[]:=a;rw[e]at c;cases c
 ·obtain⟨g,f⟩:=cB c;exact(a g i f).2
theorem aU:sB aB:=λ_ _ _ b d a c=>b a (nG d c)
theorem D5{P Q:An->Prop}(c:sB P)(d:sB Q):sB λx=>P x/\Q x:=λn x y a b=>⟨c n x y a.1 b,d n x y a.2 b⟩
end Go.Proofs.YtnidfceinoiboaaGreat
