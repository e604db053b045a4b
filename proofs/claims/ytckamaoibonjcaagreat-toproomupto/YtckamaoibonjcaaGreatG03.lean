/- What is proved here: plain facts and contracts that the claimed theorem stands on. No condition but those that each names. -/
import Derived.Test.YtckamaoibonjcaaGreatG02
namespace Go.Proofs.YtckamaoibonjcaaGreat
open Go.RowKit
theorem vT(e:Int):(l:List Nd)->(a:List Int)->(m:Int)->l.length=a.length->Cc e l a m=0->∀y∈l,cv y=true
 | [],_,_,_,_=>by simp
 | x::l,[],_,h,_=>by simp at h
 | x::l,d::a,m,h,h0=>by
  simp only[Cc]at h0;by_cases b:cv x=true
  ·rw[if_pos b]at h0;intro y c;rcases ch.1 c with rfl|c
   ·exact b
   ·exact vT e l a _ (by simpa using h) h0 y c
  ·rw[if_neg b]at h0;cases h0
theorem qv(n:Nat)(x:Tm n)(a:bu n x=0):∀y∈aw n x,cv y=true:=
 vT _ _ _ _ (jN n x 0).symm a
theorem ot{n:Nat}{x:Tm (n+1)}{y:Tm n}(b:y∈x.2.2){a:Nd}(c:a∈aw n y):a∈aw (n+1) x:=by
 simp only[aw,ch,jn];exact ai ⟨y,b,c⟩
theorem jV(x:Nd)(a:cv x=true):x.1.1=1\/x.1.1=2\/x.1.1=3\/x.1.1=4\/x.1.1=5\/(x.1.1=6/\x.1.2.1=0):=by
 by_cases b:x.1.1=1
 ·exact ah b
 by_cases c:x.1.1=2
 ·exact ai (ah c)
 by_cases d:x.1.1=3
 ·exact ai (ai (ah d))
 by_cases e:x.1.1=4
 ·exact ai (ai (ai (ah e)))
 by_cases f:x.1.1=5
 ·exact ai (ai (ai (ai (ah f))))
 by_cases g:x.1.1=6
 ·refine ai (ai (ai (ai (ai ⟨g,?_⟩))));unfold cv at a;rw[if_neg b,if_neg c,if_neg d,if_neg e,if_neg f,if_pos g]at a;simp only[aA,cm]at a;exact a.1.2
 ·unfold cv at a;rw[if_neg b,if_neg c,if_neg d,if_neg e,if_neg f,if_neg g]at a;cases a
def aC{c d:Type}(f:c->d->Bool):List c->List d->Bool
 | [],[]=>true
 | a::p,b::q=>f a b && aC f p q
 | _,_=>false
def ax:(n:Nat)->Tm n->(m:Nat)->Tm m->Bool
 | n+1,x,m+1,y=>x.1.1==y.1.1 && x.1.2.1==y.1.2.1 && x.1.2.2.toList==y.1.2.2.toList && aC (λa b=>ax n a m b) x.2.2 y.2.2
 | _,_,_,_=>false
theorem fB{a b:Bool}(c:a=b):Ending.returned (.bool a)=.returned (.bool b):=by rw[c]
theorem Be{c d:Type}(f:c->d->Bool):(p:List c)->(q:List d)->¬p.length=q.length->aC f p q=false
 | [],[],h=>by simp at h
 | [],_::_,_=>rfl
 | _::_,[],_=>rfl
 | a::p,b::q,h=>by
  simp only[aC];rw[Be f p q (by simpa using h)];simp
theorem tV(x y:Int):(x<y/\nA x y=-1)\/(x=y/\nA x y=0)\/(y<x/\nA x y=1):=by
 unfold nA;by_cases a:x<y
 ·rw[if_pos a];exact ah ⟨a,rfl⟩
 ·rw[if_neg a];by_cases b:y<x
  ·rw[if_pos b];exact ai (ai ⟨b,rfl⟩)
  ·rw[if_neg b];exact ai (ah ⟨by omega,rfl⟩)
theorem Hj:(x y:List UInt8)->Op.bytesLess x y=true->Op.bytesLess y x=false
 | _,[],c=>by simp[Op.bytesLess]at c
 | [],_::_,_=>by simp[Op.bytesLess]
 | a::x,b::y,c=>by
  simp only[Op.bytesLess,ic,bU,aA,cm]at c;simp only[Op.bytesLess,Bool.or_eq_false_iff,decide_eq_false_iff_not,Bool.and_eq_false_iff,gn];rcases c with c|⟨rfl,c⟩
  ·rw[oP]at c;refine⟨by rw[oP];omega,ah λe=>by subst e;omega⟩
  ·exact⟨by rw[oP];omega,ai (Hj x y c)⟩
theorem Hk:(x y:List UInt8)->Op.bytesLess x y=false->Op.bytesLess y x=false->x=y
 | [],[],_,_=>rfl
 | [],_::_,h,_=>by simp[Op.bytesLess]at h
 | _::_,[],_,h=>by simp[Op.bytesLess]at h
 | a::x,b::y,h,h'=>by
  simp only[Op.bytesLess,Bool.or_eq_false_iff,decide_eq_false_iff_not,Bool.and_eq_false_iff,gn]at h h';obtain⟨c,d⟩:=h;obtain⟨f,g⟩:=h';have e:a=b:=by
   rw[oP]at c f;exact UInt8.toNat_inj.1 (by omega)
  subst e;rw[Hk x y (d.resolve_left (λn=>n rfl)) (g.resolve_left (λn=>n rfl))]
theorem vS(l:List UInt8):Op.bytesLess l l=false:=by
 induction l with
 | nil=>rfl
 | cons a l ih=>simp[Op.bytesLess,ih]
theorem Hu(x y:ByteArray):(Op.bytesLess x.toList y.toList=true/\vw x y=-1)\/(x.toList=y.toList/\vw x y=0)\/(Op.bytesLess y.toList x.toList=true/\vw x y=1):=by
 unfold vw;cases h:Op.bytesLess x.toList y.toList
 ·by_cases a:x.toList=y.toList
  ·rw[a];simp
  ·have c:Op.bytesLess y.toList x.toList=true:=by
     cases h2:Op.bytesLess y.toList x.toList
     ·exact(a (Hk _ _ h h2)).elim
     ·rfl
   have b:(x.toList==y.toList)=false:=by simpa using a
   rw[b];simp[c]
 ·simp
theorem dd{x:Tm 0}(c:∀a∈aw 0 x,cv a=true):False:=by
 have:=c ((0,0,.empty),(none,0,0)) (by simp[aw]);rcases jV _ this with b|b|b|b|b|⟨b,_⟩<;>simp at b
theorem wH{h i:Type}(f:h->i->Int)(g:h->i->Bool):(p:List h)->(q:List i)->p.length=q.length->(∀a∈p,∀b∈q,(f a b=0 ↔ g a b=true))->(oY f p q=0 ↔ aC g p q=true)
 | [],[],_,_=>by simp[oY,aC]
 | [],_::_,e,_=>by simp at e
 | _::_,[],e,_=>by simp at e
 | a::p,b::q,e,H=>by
  have j:=H a (by simp) b (by simp);have m:=wH f g p q (by simpa using e) (λk n l o=>H k (by simp[n]) l (by simp[o]));simp only[oY,aC,aA];by_cases d:f a b=0
  ·rw[if_pos d,m];exact⟨λc=>⟨j.1 d,c⟩,λc=>c.2⟩
  ·rw[if_neg d];exact⟨λc=>(d c).elim,λc=>(d (j.2 c.1)).elim⟩
theorem eq(x:Nd)(b:cv x=true):(x.1.1≠2->x.1.2.2.toList=[])/\(x.1.1=2->x.1.2.1=0)/\(x.1.1=4->x.1.2.1=0)/\(x.1.1=6->x.1.2.1=0)/\(x.1.1≠4->x.2.2.1=0):=by
 have c:=jV x b;unfold cv at b;rcases c with a|a|a|a|a|⟨a,d⟩
 all_goals (rw[a]at b ⊢;simp at b ⊢;simp[b])
theorem AU:(n:Nat)->(x:Tm n)->(m:Nat)->(y:Tm m)->(∀a∈aw n x,cv a=true)->(∀a∈aw m y,cv a=true)->(wG n x m y=0 ↔ ax n x m y=true)
 | 0,_,_,_,f,_=>(dd f).elim
 | _+1,_,0,_,_,f=>(dd f).elim
 | n+1,x,m+1,y,hx,hy=>by
  have l:=eq _ (hx (x.1,(x.2.1.1,x.2.2.length,x.2.1.2)) (by simp[aw]));have j:=eq _ (hy (y.1,(y.2.1.1,y.2.2.length,y.2.1.2)) (by simp[aw]));have C:=jV _ (hx (x.1,(x.2.1.1,x.2.2.length,x.2.1.2)) (by simp[aw]));have I:=λe=>wH (λa b=>wG n a m b) (λa b=>ax n a m b) x.2.2 y.2.2 e (λa G b H=>AU n a m b (λd w=>hx d (ot G w)) (λd w=>hy d (ot H w)));simp only at l j C;simp only[wG,ax];have F:=Hu x.1.2.2 y.1.2.2;have M:=tV x.1.2.1 y.1.2.1;have N:=tV x.1.1 y.1.1;have O:=tV x.2.2.length y.2.2.length;obtain⟨⟨k,D,s⟩,⟨a,c⟩,p⟩:=x;obtain⟨⟨B,z,J⟩,⟨K,L⟩,q⟩:=y;simp only at*;clear hx hy;by_cases e:k=B
  ·subst e;rw[if_pos rfl];have o:k≠4->p=[]/\q=[]:=λf=>⟨bH (l.2.2.2.2 f),bH (j.2.2.2.2 f)⟩;have r:k≠2->s.toList=[]/\J.toList=[]:=λf=>⟨l.1 f,j.1 f⟩;rcases C with g|g|g|g|g|⟨g,E⟩
   ·subst g;obtain⟨rfl,rfl⟩:=o (by decide);obtain⟨h,i⟩:=r (by decide);rw[if_pos (by decide),h,i];simp[aC];omega
   ·subst g;obtain⟨rfl,rfl⟩:=o (by decide);have A:D=0:=l.2.1 rfl;have t:z=0:=j.2.1 rfl;subst A t;rw[if_neg (by decide),if_pos rfl];simp[aC];rcases F with⟨f,v⟩|⟨f,v⟩|⟨f,v⟩
    ·refine⟨λe=>by omega,λe=>?_⟩;rw[e,vS]at f;cases f
    ·exact⟨λ_=>f,λ_=>v⟩
    ·refine⟨λe=>by omega,λe=>?_⟩;rw[e,vS]at f;cases f
   ·subst g;obtain⟨rfl,rfl⟩:=o (by decide);obtain⟨h,i⟩:=r (by decide);rw[if_pos (by decide),h,i];simp[aC];omega
   ·subst g;obtain⟨h,i⟩:=r (by decide);have A:D=0:=l.2.2.1 rfl;have t:z=0:=j.2.2.1 rfl;subst A t;rw[if_neg (by decide),if_neg (by decide),if_pos rfl,h,i];by_cases u:p.length=q.length
    ·rw[if_pos u,I u];simp
    ·rw[if_neg u,Be _ _ _ u];simp;omega
   ·subst g;obtain⟨rfl,rfl⟩:=o (by decide);obtain⟨h,i⟩:=r (by decide);rw[if_pos (by decide),h,i];simp[aC];omega
   ·subst g;obtain⟨rfl,rfl⟩:=o (by decide);obtain⟨h,i⟩:=r (by decide);have t:z=0:=j.2.2.2.1 rfl;subst E t;rw[if_neg (by decide),if_neg (by decide),if_neg (by decide),h,i];simp[aC]
  ·rw[if_neg e];have:(k==B)=false:=by simpa using e
   rw[this];simp;omega
abbrev An:=(n:Nat)×Tm n
def bO:An->Int
 | ⟨0,_⟩=>0
 | ⟨_+1,x⟩=>x.1.1
def dT(x y:An):Bool:=ax x.1 x.2 y.1 y.2
def EK(B:Nat)(w:World)(x:An):Prop:=In B w x.1 x.2
def az(x:An):Prop:=∀a∈aw x.1 x.2,cv a=true
def im{a c S:Type}(f:a->c->S->Option S):List a->List c->S->Option S
 | x::p,y::q,b=>(f x y b).bind (im f p q)
 | _,_,b=>some b
def ub(b:List An)(i:Nat)(t:An):Option (List An):=
 match b[i]? with
 | some a=>if bO a=6 then some (b.set i t)else if dT a t then some b else none
 | none=>none
def gQ:(n:Nat)->Tm n->(m:Nat)->Tm m->List An->Option (List An)
 | n+1,p,m+1,t,b=>
  if p.1.1=6 then some b
  else if p.1.1=5 then ub b p.1.2.1.toNat ⟨m+1,t⟩
  else if p.1.1=4 then
   if t.1.1=4/\p.2.2.length=t.2.2.length then im (λx y b=>gQ n x m y b) p.2.2 t.2.2 b else none
  else if ax (n+1) p (m+1) t then some b else none
 | _,_,_,_,_=>none
def Ot(x y:An)(b:List An):Option (List An):=gQ x.1 x.2 y.1 y.2 b
def kE:List (An×An)->List An->Option (List An)
 | [],b=>some b
 | (x,y)::r,b=>(Ot x y b).bind (kE r)
def jF(n m:Nat)(p:List (Tm n))(q:List (Tm m)):List (An×An):=List.zipWith (λx y=>(⟨n,x⟩,⟨m,y⟩)) p q
def tD(P:An->Prop):Prop:=∀(n:Nat)(x:Tm (n+1))(y:Tm n),P ⟨n+1,x⟩->y∈x.2.2->P ⟨n,y⟩
theorem we{a e S:Type}(f:a->e->S->Option S)(Q:S->Prop):(p:List a)->(q:List e)->(∀x∈p,∀y∈q,∀b c,Q b->f x y b=some c->Q c)->∀b c,Q b->im f p q b=some c->Q c
 | [],_,_,b,c,hb,h=>by simp[im]at h;rw[<-h];exact hb
 | _::_,[],_,b,c,hb,h=>by simp[im]at h;rw[<-h];exact hb
 | x::p,y::q,hf,b,c,hb,h=>by
  simp only[im]at h;obtain⟨d,g,i⟩:=br.1 h;exact we f Q p q (λx' j l k=>hf x' (bI _ j) l (bI _ k)) d c (hf x (by simp) y (by simp) b d hb g) i
theorem Fm(P:An->Prop)(b c:List An)(i:Nat)(t:An)(f:P t)(d:b.length=4/\∀y∈b,P y)(a:ub b i t=some c):c.length=4/\∀y∈c,P y:=by
 unfold ub at a;split at a
 ·split at a
  ·obtain rfl:=au a;refine⟨by simpa using d.1,λy g=>?_⟩;rcases sg g with e|rfl
   ·exact d.2 y e
   ·exact f
  ·split at a
   ·obtain rfl:=au a;exact d
   ·cases a
 ·cases a
theorem kD(P:An->Prop)(d:tD P):(n:Nat)->(p:Tm n)->(m:Nat)->(t:Tm m)->P ⟨m,t⟩->∀b c,(b.length=4/\∀y∈b,P y)->gQ n p m t b=some c->(c.length=4/\∀y∈c,P y)
 | 0,_,_,_,_,_,_,_,h=>by simp[gQ]at h
 | n+1,_,0,_,_,_,_,_,h=>by simp[gQ]at h
 | n+1,p,m+1,t,ht,b,c,a,h=>by
  simp only[gQ]at h;split at h
  ·obtain rfl:=au h;exact a
  split at h
  ·exact Fm P b c _ _ ht a h
  split at h
  ·split at h
   ·exact we _ _ p.2.2 t.2.2 (λx g y f b c a e=>kD P d n x m y (d m t y ht f) b c a e) b c a h
   ·cases h
  ·split at h
   ·obtain rfl:=au h;exact a
   ·cases h
theorem Fl{a c S:Type}(f:a->c->S->Option S)(p:List a)(q:List c)(k:Nat)(x:a)(y:c)(i:p[k]?=some x)(j:q[k]?=some y)(b:S):im f (p.drop k) (q.drop k) b=(f x y b).bind (im f (p.drop (k+1)) (q.drop (k+1))):=by
 obtain⟨g,d⟩:=aR.1 i;obtain⟨h,e⟩:=aR.1 j;rw[eV g,eV h,d,e];rfl
theorem Jb(B:Nat)(w:World):tD (EK B w):=by
 intro n h i d c;rcases d.2 with a|⟨b,o,j,k,a⟩
 ·have e:h.2.2=[]:=a;rw[e]at c;cases c
 ·obtain⟨g,f⟩:=cO c;exact(a g i f).2
theorem aT:tD az:=λ_ _ _ b d a c=>b a (ot d c)
theorem F8{P Q:An->Prop}(c:tD P)(d:tD Q):tD λx=>P x/\Q x:=λn x y a b=>⟨c n x y a.1 b,d n x y a.2 b⟩
end Go.Proofs.YtckamaoibonjcaaGreat
