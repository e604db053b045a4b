/- What is proved here: plain facts and contracts that the claimed theorem stands on. No condition but those that each names. -/
import Derived.Test.YtckamaoibonjcaaGreatG02
namespace Go.Proofs.YtckamaoibonjcaaGreat
open Go.RowKit
theorem vF(e:Int):(l:List Nd)->(a:List Int)->(m:Int)->l.length=a.length->BU e l a m=0->∀y∈l,cm y=true
 | [],_,_,_,_=>by simp
 | x::l,[],_,h,_=>by simp at h
 | x::l,d::a,m,h,h0=>by
  simp only[BU]at h0;by_cases b:cm x=true
  ·rw[if_pos b]at h0;intro y c;rcases cv.1 c with rfl|c
   ·exact b
   ·exact vF e l a _ (by simpa using h) h0 y c
  ·rw[if_neg b]at h0;cases h0
theorem qj(n:Nat)(x:Tm n)(a:bm n x=0):∀y∈ar n x,cm y=true:=
 vF _ _ _ _ (jE n x 0).symm a
theorem nY{n:Nat}{x:Tm (n+1)}{y:Tm n}(b:y∈x.2.2){a:Nd}(c:a∈ar n y):a∈ar (n+1) x:=by
 simp only[ar,cv,jd];exact af ⟨y,b,c⟩
theorem jM(x:Nd)(a:cm x=true):x.1.1=1\/x.1.1=2\/x.1.1=3\/x.1.1=4\/x.1.1=5\/(x.1.1=6/\x.1.2.1=0):=by
 by_cases b:x.1.1=1
 ·exact ae b
 by_cases c:x.1.1=2
 ·exact af (ae c)
 by_cases d:x.1.1=3
 ·exact af (af (ae d))
 by_cases e:x.1.1=4
 ·exact af (af (af (ae e)))
 by_cases f:x.1.1=5
 ·exact af (af (af (af (ae f))))
 by_cases g:x.1.1=6
 ·refine af (af (af (af (af ⟨g,?_⟩))));unfold cm at a;rw[if_neg b,if_neg c,if_neg d,if_neg e,if_neg f,if_pos g]at a;simp only[ay,b9]at a;exact a.1.2
 ·unfold cm at a;rw[if_neg b,if_neg c,if_neg d,if_neg e,if_neg f,if_neg g]at a;cases a
def az{c d:Type}(f:c->d->Bool):List c->List d->Bool
 | [],[]=>true
 | a::p,b::q=>f a b && az f p q
 | _,_=>false
def au:(n:Nat)->Tm n->(m:Nat)->Tm m->Bool
 | n+1,x,m+1,y=>x.1.1==y.1.1 && x.1.2.1==y.1.2.1 && x.1.2.2.toList==y.1.2.2.toList && az (λa b=>au n a m b) x.2.2 y.2.2
 | _,_,_,_=>false
theorem ft{a b:Bool}(c:a=b):Ending.returned (.bool a)=.returned (.bool b):=by rw[c]
theorem AZ{c d:Type}(f:c->d->Bool):(p:List c)->(q:List d)->¬p.length=q.length->az f p q=false
 | [],[],h=>by simp at h
 | [],_::_,_=>rfl
 | _::_,[],_=>rfl
 | a::p,b::q,h=>by
  simp only[az];rw[AZ f p q (by simpa using h)];simp
theorem tK(x y:Int):(x<y/\nj x y=-1)\/(x=y/\nj x y=0)\/(y<x/\nj x y=1):=by
 unfold nj;by_cases a:x<y
 ·rw[if_pos a];exact ae ⟨a,rfl⟩
 ·rw[if_neg a];by_cases b:y<x
  ·rw[if_pos b];exact af (af ⟨b,rfl⟩)
  ·rw[if_neg b];exact af (ae ⟨by omega,rfl⟩)
theorem G2:(x y:List UInt8)->Op.bytesLess x y=true->Op.bytesLess y x=false
 | _,[],c=>by simp[Op.bytesLess]at c
 | [],_::_,_=>by simp[Op.bytesLess]
 | a::x,b::y,c=>by
  simp only[Op.bytesLess,gU,bT,ay,b9]at c;simp only[Op.bytesLess,Bool.or_eq_false_iff,decide_eq_false_iff_not,Bool.and_eq_false_iff,f9];rcases c with c|⟨rfl,c⟩
  ·rw[oE]at c;refine⟨by rw[oE];omega,ae λe=>by subst e;omega⟩
  ·exact⟨by rw[oE];omega,af (G2 x y c)⟩
theorem G3:(x y:List UInt8)->Op.bytesLess x y=false->Op.bytesLess y x=false->x=y
 | [],[],_,_=>rfl
 | [],_::_,h,_=>by simp[Op.bytesLess]at h
 | _::_,[],_,h=>by simp[Op.bytesLess]at h
 | a::x,b::y,h,h'=>by
  simp only[Op.bytesLess,Bool.or_eq_false_iff,decide_eq_false_iff_not,Bool.and_eq_false_iff,f9]at h h';obtain⟨c,d⟩:=h;obtain⟨f,g⟩:=h';have e:a=b:=by
   rw[oE]at c f;exact UInt8.toNat_inj.1 (by omega)
  subst e;rw[G3 x y (d.resolve_left (λn=>n rfl)) (g.resolve_left (λn=>n rfl))]
theorem vE(l:List UInt8):Op.bytesLess l l=false:=by
 induction l with
 | nil=>rfl
 | cons a l ih=>simp[Op.bytesLess,ih]
theorem Hc(x y:ByteArray):(Op.bytesLess x.toList y.toList=true/\vf x y=-1)\/(x.toList=y.toList/\vf x y=0)\/(Op.bytesLess y.toList x.toList=true/\vf x y=1):=by
 unfold vf;cases h:Op.bytesLess x.toList y.toList
 ·by_cases a:x.toList=y.toList
  ·rw[a];simp
  ·have c:Op.bytesLess y.toList x.toList=true:=by
     cases h2:Op.bytesLess y.toList x.toList
     ·exact(a (G3 _ _ h h2)).elim
     ·rfl
   have b:(x.toList==y.toList)=false:=by simpa using a
   rw[b];simp[c]
 ·simp
theorem cY{x:Tm 0}(c:∀a∈ar 0 x,cm a=true):False:=by
 have:=c ((0,0,.empty),(none,0,0)) (by simp[ar]);rcases jM _ this with b|b|b|b|b|⟨b,_⟩<;>simp at b
theorem we{h i:Type}(f:h->i->Int)(g:h->i->Bool):(p:List h)->(q:List i)->p.length=q.length->(∀a∈p,∀b∈q,(f a b=0 ↔ g a b=true))->(oO f p q=0 ↔ az g p q=true)
 | [],[],_,_=>by simp[oO,az]
 | [],_::_,e,_=>by simp at e
 | _::_,[],e,_=>by simp at e
 | a::p,b::q,e,H=>by
  have j:=H a (by simp) b (by simp);have m:=we f g p q (by simpa using e) (λk n l o=>H k (by simp[n]) l (by simp[o]));simp only[oO,az,ay];by_cases d:f a b=0
  ·rw[if_pos d,m];exact⟨λc=>⟨j.1 d,c⟩,λc=>c.2⟩
  ·rw[if_neg d];exact⟨λc=>(d c).elim,λc=>(d (j.2 c.1)).elim⟩
theorem eg(x:Nd)(b:cm x=true):(x.1.1≠2->x.1.2.2.toList=[])/\(x.1.1=2->x.1.2.1=0)/\(x.1.1=4->x.1.2.1=0)/\(x.1.1=6->x.1.2.1=0)/\(x.1.1≠4->x.2.2.1=0):=by
 have c:=jM x b;unfold cm at b;rcases c with a|a|a|a|a|⟨a,d⟩
 all_goals (rw[a]at b ⊢;simp at b ⊢;simp[b])
theorem AG:(n:Nat)->(x:Tm n)->(m:Nat)->(y:Tm m)->(∀a∈ar n x,cm a=true)->(∀a∈ar m y,cm a=true)->(wb n x m y=0 ↔ au n x m y=true)
 | 0,_,_,_,f,_=>(cY f).elim
 | _+1,_,0,_,_,f=>(cY f).elim
 | n+1,x,m+1,y,hx,hy=>by
  have l:=eg _ (hx (x.1,(x.2.1.1,x.2.2.length,x.2.1.2)) (by simp[ar]));have j:=eg _ (hy (y.1,(y.2.1.1,y.2.2.length,y.2.1.2)) (by simp[ar]));have C:=jM _ (hx (x.1,(x.2.1.1,x.2.2.length,x.2.1.2)) (by simp[ar]));have I:=λe=>we (λa b=>wb n a m b) (λa b=>au n a m b) x.2.2 y.2.2 e (λa G b H=>AG n a m b (λd w=>hx d (nY G w)) (λd w=>hy d (nY H w)));simp only at l j C;simp only[wb,au];have F:=Hc x.1.2.2 y.1.2.2;have M:=tK x.1.2.1 y.1.2.1;have N:=tK x.1.1 y.1.1;have O:=tK x.2.2.length y.2.2.length;obtain⟨⟨k,D,s⟩,⟨a,c⟩,p⟩:=x;obtain⟨⟨B,z,J⟩,⟨K,L⟩,q⟩:=y;simp only at*;clear hx hy;by_cases e:k=B
  ·subst e;rw[if_pos rfl];have o:k≠4->p=[]/\q=[]:=λf=>⟨bD (l.2.2.2.2 f),bD (j.2.2.2.2 f)⟩;have r:k≠2->s.toList=[]/\J.toList=[]:=λf=>⟨l.1 f,j.1 f⟩;rcases C with g|g|g|g|g|⟨g,E⟩
   ·subst g;obtain⟨rfl,rfl⟩:=o (by decide);obtain⟨h,i⟩:=r (by decide);rw[if_pos (by decide),h,i];simp[az];omega
   ·subst g;obtain⟨rfl,rfl⟩:=o (by decide);have A:D=0:=l.2.1 rfl;have t:z=0:=j.2.1 rfl;subst A t;rw[if_neg (by decide),if_pos rfl];simp[az];rcases F with⟨f,v⟩|⟨f,v⟩|⟨f,v⟩
    ·refine⟨λe=>by omega,λe=>?_⟩;rw[e,vE]at f;cases f
    ·exact⟨λ_=>f,λ_=>v⟩
    ·refine⟨λe=>by omega,λe=>?_⟩;rw[e,vE]at f;cases f
   ·subst g;obtain⟨rfl,rfl⟩:=o (by decide);obtain⟨h,i⟩:=r (by decide);rw[if_pos (by decide),h,i];simp[az];omega
   ·subst g;obtain⟨h,i⟩:=r (by decide);have A:D=0:=l.2.2.1 rfl;have t:z=0:=j.2.2.1 rfl;subst A t;rw[if_neg (by decide),if_neg (by decide),if_pos rfl,h,i];by_cases u:p.length=q.length
    ·rw[if_pos u,I u];simp
    ·rw[if_neg u,AZ _ _ _ u];simp;omega
   ·subst g;obtain⟨rfl,rfl⟩:=o (by decide);obtain⟨h,i⟩:=r (by decide);rw[if_pos (by decide),h,i];simp[az];omega
   ·subst g;obtain⟨rfl,rfl⟩:=o (by decide);obtain⟨h,i⟩:=r (by decide);have t:z=0:=j.2.2.2.1 rfl;subst E t;rw[if_neg (by decide),if_neg (by decide),if_neg (by decide),h,i];simp[az]
  ·rw[if_neg e];have:(k==B)=false:=by simpa using e
   rw[this];simp;omega
abbrev An:=(n:Nat)×Tm n
def bK:An->Int
 | ⟨0,_⟩=>0
 | ⟨_+1,x⟩=>x.1.1
def dO(x y:An):Bool:=au x.1 x.2 y.1 y.2
def Eu(B:Nat)(w:World)(x:An):Prop:=In B w x.1 x.2
def av(x:An):Prop:=∀a∈ar x.1 x.2,cm a=true
def hU{a c S:Type}(f:a->c->S->Option S):List a->List c->S->Option S
 | x::p,y::q,b=>(f x y b).bind (hU f p q)
 | _,_,b=>some b
def tQ(b:List An)(i:Nat)(t:An):Option (List An):=
 match b[i]? with
 | some a=>if bK a=6 then some (b.set i t)else if dO a t then some b else none
 | none=>none
def gG:(n:Nat)->Tm n->(m:Nat)->Tm m->List An->Option (List An)
 | n+1,p,m+1,t,b=>
  if p.1.1=6 then some b
  else if p.1.1=5 then tQ b p.1.2.1.toNat ⟨m+1,t⟩
  else if p.1.1=4 then
   if t.1.1=4/\p.2.2.length=t.2.2.length then hU (λx y b=>gG n x m y b) p.2.2 t.2.2 b else none
  else if au (n+1) p (m+1) t then some b else none
 | _,_,_,_,_=>none
def N4(x y:An)(b:List An):Option (List An):=gG x.1 x.2 y.1 y.2 b
def kp:List (An×An)->List An->Option (List An)
 | [],b=>some b
 | (x,y)::r,b=>(N4 x y b).bind (kp r)
def jw(n m:Nat)(p:List (Tm n))(q:List (Tm m)):List (An×An):=List.zipWith (λx y=>(⟨n,x⟩,⟨m,y⟩)) p q
def tn(P:An->Prop):Prop:=∀(n:Nat)(x:Tm (n+1))(y:Tm n),P ⟨n+1,x⟩->y∈x.2.2->P ⟨n,y⟩
theorem vO{a e S:Type}(f:a->e->S->Option S)(Q:S->Prop):(p:List a)->(q:List e)->(∀x∈p,∀y∈q,∀b c,Q b->f x y b=some c->Q c)->∀b c,Q b->hU f p q b=some c->Q c
 | [],_,_,b,c,hb,h=>by simp[hU]at h;rw[<-h];exact hb
 | _::_,[],_,b,c,hb,h=>by simp[hU]at h;rw[<-h];exact hb
 | x::p,y::q,hf,b,c,hb,h=>by
  simp only[hU]at h;obtain⟨d,g,i⟩:=bj.1 h;exact vO f Q p q (λx' j l k=>hf x' (bI _ j) l (bI _ k)) d c (hf x (by simp) y (by simp) b d hb g) i
theorem E0(P:An->Prop)(b c:List An)(i:Nat)(t:An)(f:P t)(d:b.length=4/\∀y∈b,P y)(a:tQ b i t=some c):c.length=4/\∀y∈c,P y:=by
 unfold tQ at a;split at a
 ·split at a
  ·obtain rfl:=aq a;refine⟨by simpa using d.1,λy g=>?_⟩;rcases rR g with e|rfl
   ·exact d.2 y e
   ·exact f
  ·split at a
   ·obtain rfl:=aq a;exact d
   ·cases a
 ·cases a
theorem ko(P:An->Prop)(d:tn P):(n:Nat)->(p:Tm n)->(m:Nat)->(t:Tm m)->P ⟨m,t⟩->∀b c,(b.length=4/\∀y∈b,P y)->gG n p m t b=some c->(c.length=4/\∀y∈c,P y)
 | 0,_,_,_,_,_,_,_,h=>by simp[gG]at h
 | n+1,_,0,_,_,_,_,_,h=>by simp[gG]at h
 | n+1,p,m+1,t,ht,b,c,a,h=>by
  simp only[gG]at h;split at h
  ·obtain rfl:=aq h;exact a
  split at h
  ·exact E0 P b c _ _ ht a h
  split at h
  ·split at h
   ·exact vO _ _ p.2.2 t.2.2 (λx g y f b c a e=>ko P d n x m y (d m t y ht f) b c a e) b c a h
   ·cases h
  ·split at h
   ·obtain rfl:=aq h;exact a
   ·cases h
theorem EZ{a c S:Type}(f:a->c->S->Option S)(p:List a)(q:List c)(k:Nat)(x:a)(y:c)(i:p[k]?=some x)(j:q[k]?=some y)(b:S):hU f (p.drop k) (q.drop k) b=(f x y b).bind (hU f (p.drop (k+1)) (q.drop (k+1))):=by
 obtain⟨g,d⟩:=aL.1 i;obtain⟨h,e⟩:=aL.1 j;rw[eP g,eP h,d,e];rfl
theorem IT(B:Nat)(w:World):tn (Eu B w):=by
 intro n h i d c;rcases d.2 with a|⟨b,o,j,k,a⟩
 ·have e:h.2.2=[]:=a;rw[e]at c;cases c
 ·obtain⟨g,f⟩:=cM c;exact(a g i f).2
theorem aN:tn av:=λ_ _ _ b d a c=>b a (nY d c)
theorem FN{P Q:An->Prop}(c:tn P)(d:tn Q):tn λx=>P x/\Q x:=λn x y a b=>⟨c n x y a.1 b,d n x y a.2 b⟩
end Go.Proofs.YtckamaoibonjcaaGreat
