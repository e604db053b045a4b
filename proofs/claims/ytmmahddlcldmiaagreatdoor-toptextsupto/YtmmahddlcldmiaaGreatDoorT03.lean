/- Proved here: plain facts and contracts. No condition but what each names. -/
import Derived.Test.YtmmahddlcldmiaaGreatDoorT02
namespace Go.Proofs.YtmmahddlcldmiaaGreatDoor
open Go.RowKit Go.Proofs.Tryz
set_option maxHeartbeats 400000
theorem xj(e:Int):(l:List Nd)->(a:List Int)->(m:Int)->l.length=a.length->C6 e l a m=0->∀y∈l,cg y=true
 | [],_,_,_,_=>by simp
 | x::l,[],_,h,_=>by simp at h
 | x::l,d::a,m,h,h0=>by
  simp only[C6]at h0;by_cases b:cg x=true
  ·rw[if_pos b]at h0;intro y c;rcases ch.1 c with rfl|c
   ·exact b
   ·exact xj e l a _ (by simpa using h) h0 y c
  ·rw[if_neg b]at h0;cases h0
theorem l6(n:Nat)(x:Tm n)(a:bv n x=0):∀y∈ax n x,cg y=true:=
 xj _ _ _ _ (j0 n x 0).symm a
theorem mw{n:Nat}{x:Tm (n+1)}{y:Tm n}(b:y∈x.2.2){a:Nd}(c:a∈ax n y):a∈ax (n+1) x:=by
 simp only[ax,ch,jG];exact ai ⟨y,b,c⟩
theorem ku(x:Nd)(a:cg x=true):x.1.1=1\/x.1.1=2\/x.1.1=3\/x.1.1=4\/x.1.1=5\/(x.1.1=6/\x.1.2.1=0):=by
 by_cases b:x.1.1=1
 ·exact ah b
 by_cases c:x.1.1=2
 ·exact ai (ah c)
 by_cases d:x.1.1=3
 ·exact ai (ai (ah d))
 by_cases e:x.1.1=4
 ·exact ai (ai (ai (ah e)))
 by_cases f:x.1.1=5
 ·exact ai (ai (ai (ai (ah f))))
 by_cases g:x.1.1=6
 ·refine ai (ai (ai (ai (ai ⟨g,?_⟩))));unfold cg at a;rw[if_neg b,if_neg c,if_neg d,if_neg e,if_neg f,if_pos g]at a;simp only[aA,cm]at a;exact a.1.2
 ·unfold cg at a;rw[if_neg b,if_neg c,if_neg d,if_neg e,if_neg f,if_neg g]at a;cases a
def aC{c d:Type}(f:c->d->Bool):List c->List d->Bool
 | [],[]=>true
 | a::p,b::q=>f a b && aC f p q
 | _,_=>false
def ay:(n:Nat)->Tm n->(m:Nat)->Tm m->Bool
 | n+1,x,m+1,y=>x.1.1==y.1.1 && x.1.2.1==y.1.2.1 && x.1.2.2.toList==y.1.2.2.toList && aC (λa b=>ay n a m b) x.2.2 y.2.2
 | _,_,_,_=>false
theorem eS{a b:Bool}(c:a=b):Ending.returned (.bool a)=.returned (.bool b):=by rw[c]
theorem Ec{c d:Type}(f:c->d->Bool)(p:List c)(q:List d)(k:Nat)(a:c)(b:d)(j:p[k]?=some a)(l:q[k]?=some b):aC f (p.drop k) (q.drop k)=(f a b && aC f (p.drop (k+1)) (q.drop (k+1))):=by
 obtain⟨h,e⟩:=aO.1 j;obtain⟨i,g⟩:=aO.1 l;rw[eA h,eA i,e,g];rfl
theorem vS{c d:Type}(f:c->d->Bool):(p:List c)->(q:List d)->¬p.length=q.length->aC f p q=false
 | [],[],h=>by simp at h
 | [],_::_,_=>rfl
 | _::_,[],_=>rfl
 | a::p,b::q,h=>by
  simp only[aC];rw[vS f p q (by simpa using h)];simp
def Ja(n:Nat):Prop:=∀(x:Tm n)(m:Nat)(y:Tm m)(B:Nat)(w:World),In B w n x->In B w m y->B<=w.heap.size->
 am 36 #[df n x,df m y] w λe w'=>e=.returned (.bool (ay n x m y))/\aj w w'
theorem JV(p q:Nat)(a c:Option Addr)(pc d:Nat)(w:World)(_hpc:p<=9223372036854775807)(_hqc:q<=9223372036854775807)(b:((p:Int)==(q:Int))=false):am 106 #[ae a p pc,ae c q d,.func (Fn.func 36) #[] #[]] w λe w'=>e=.returned (.bool false)/\w'=w:=by
 have f:((p:Int) !=(q:Int))=true:=by simpa using b
 go_enter func106,ntmps106;go_wp2_with fail
 go_ret
 exact⟨rfl,rfl⟩
theorem xt(a c:Option Addr)(pc d:Nat)(w:World):am 106 #[ae a 0 pc,ae c 0 d,.func (Fn.func 36) #[] #[]] w λe w'=>e=.returned (.bool true)/\w'=w:=by
 go_enter func106,ntmps106;go_wp2_with fail
 go_loop [17] (λb=>b=ab 0) (λ_=>0)
 case atStart=>rfl
 case round=>
  obtain rfl:=hrel;go_wp2_with fail
  go_ret
  exact⟨rfl,rfl⟩
theorem JU(n m:Nat)(ih:Ja n)(p:List (Tm n))(q:List (Tm m))(len:Nat)(G:Hid (p.length=len))(I:Hid (q.length=len))(s po t J pc N:Nat)(B:Nat)(w:World)(S:len<=9223372036854775807)(L:s<B)(M:t<B)(F:∀(i:Nat)(y:Tm n),p[i]?=some y->dB w s (po+i*4) n y/\In B w n y)(H:∀(i:Nat)(y:Tm m),q[i]?=some y->dB w t (J+i*4) m y/\In B w m y)(g:B<=w.heap.size):am 106 #[ae (some ⟨s,po,none⟩) len pc,ae (some ⟨t,J,none⟩) len N,.func (Fn.func 36) #[] #[]] w λe w'=> e=.returned (.bool (aC (λa b=>ay n a m b) p q))/\aj w w':=by
 go_enter func106,ntmps106;go_wp2_with fail;go_loopw [17] (λi wr=>∃k:Nat,k<=len/\i=ab k/\aj w wr/\Hid (aC (λa b=>ay n a m b) (p.drop k) (q.drop k)=aC (λa b=>ay n a m b) p q)) (λi _=>len-(intOf i).toNat)
 case atStart=>exact⟨0,by omega,rfl,ap _ _,rfl⟩
 case round=>
  obtain⟨k,P,rfl,d,x⟩:=hrel;by_cases E:k<len
  ·obtain⟨c,z⟩:∃c,p[k]?=some c:=⟨p[k]'(by rw[G.out];exact E),aG _⟩;obtain⟨y,A⟩:∃y,q[k]?=some y:=⟨q[k]'(by rw[I.out];exact E),aG _⟩;obtain⟨j,l⟩:=F k c z;obtain⟨o,r⟩:=H k y A;have h:=aq (Ec (λa b=>ay n a m b) p q k c y z A);replace j:=j.below (d.mono g) L;replace o:=o.below (d.mono g) M;replace l:=l.below (d.mono g);replace r:=r.below (d.mono g);clear F H z A;cases n with
   | zero=>exact j.elim
   | succ n=>
   cases m with
   | zero=>exact o.elim
   | succ m=>
   obtain⟨V,W,X,Y⟩:=j;obtain⟨y0,y1,y2,aa⟩:=o;have v:B<=wr.heap.size:=az g d.size
   have K:Hid (∀(f:World),aj wr f->am 36 #[.agg #[ab c.1.1,ab c.1.2.1,af c.1.2.2,ae c.2.1.1 c.2.2.length c.2.1.2],.agg #[ab y.1.1,ab y.1.2.1,af y.1.2.2,ae y.2.1.1 y.2.2.length y.2.1.2]] f λe w'=>e=.returned (.bool (ay (n+1) c (m+1) y))/\aj f w'):=
    λf u=>ih c (m+1) y B f (l.below (u.mono v)) (r.below (u.mono v)) (az v u.size)
   clear ih l r;replace h:Hid (aC (λa b=>ay (n+1) a (m+1) b) (p.drop k) (q.drop k)=(ay (n+1) c (m+1) y && aC (λa b=>ay (n+1) a (m+1) b) (p.drop (k+1)) (q.drop (k+1)))):=h;generalize ay (n+1) c (m+1) y=O at*;generalize c.2.2.length=Z at*;generalize y.2.2.length=yl at*;have Q:(0:Int)<=(k:Int):=by omega
   have R:(k:Int)<(len:Int):=by omega
   have T:s<wr.heap.size:=by omega
   have U:t<wr.heap.size:=by omega
   go_wp2_with fail;refine(K _ (((ap _ _).alloc (ak _) _).alloc (by simp) _)).mono ?_;rintro e f ⟨rfl,C⟩;have D:aj w f:=(d.trans ((((ap _ _).alloc (ak _) _).alloc (by simp) _).mono d.size)).trans (C.mono (by have:=d.size;simp;omega));clear C;cases O with
   | true=>
    go_wp2_with fail;go_roundw
    case rel=>exact⟨k+1,by omega,by go_num,D,by rw[<-x.out,h.out];rfl⟩
    case measure=>simp[intOf];omega
   | false=>
    go_wp2_with fail
    go_ret
    exact⟨eS (by rw[<-x.out,h.out];rfl),D⟩
  ·go_wp2_with fail
   go_ret
   refine⟨eS ?_,d⟩;rw[<-x.out,gt (by rw[G.out];omega),gt (by rw[I.out];omega)];rfl
theorem wS(n m:Nat)(ih:Ja n)(p:List (Tm n))(q:List (Tm m))(a c:Option Addr)(pc h:Nat)(B:Nat)(w:World)(f:p=[]\/∃b o,a=some ⟨b,o,none⟩/\b<B/\∀(i:Nat)(y:Tm n),p[i]?=some y->dB w b (o+i*4) n y/\In B w n y)(g:q=[]\/∃b o,c=some ⟨b,o,none⟩/\b<B/\∀(i:Nat)(y:Tm m),q[i]?=some y->dB w b (o+i*4) m y/\In B w m y)(l:p.length<=9223372036854775807)(r:q.length<=9223372036854775807)(k:B<=w.heap.size):am 76 #[ae a p.length pc,ae c q.length h] w λe w'=>e=.returned (.bool (aC (λa b=>ay n a m b) p q))/\aj w w':=by
 have s:Hid (am 106 #[ae a p.length pc,ae c q.length h,.func (Fn.func 36) #[] #[]] w λe w'=>
   e=.returned (.bool (aC (λa b=>ay n a m b) p q))/\aj w w'):=by
  by_cases d:p.length=q.length
  ·rcases f with f|⟨A,po,rfl,v,f⟩
   ·subst f;have x:q=[]:=bF d.symm;subst x;refine(xt a c pc h w).mono ?_;rintro e w' ⟨rfl,rfl⟩;exact⟨rfl,ap _ _⟩
   ·rcases g with g|⟨C,D,rfl,z,g⟩
    ·subst g;have u:p=[]:=bF d;subst u;refine(xt _ c pc h w).mono ?_;rintro e w' ⟨rfl,rfl⟩;exact⟨rfl,ap _ _⟩
    ·have j:=JU n m ih p q p.length rfl d.symm A po C D pc h B w (by omega) v z f g k;rw[d]at j;rw[d];exact j
  ·rw[vS _ _ _ d];refine(JV p.length q.length a c pc h w l r (by simp;omega)).mono ?_;rintro e w' ⟨rfl,rfl⟩;exact⟨rfl,ap _ _⟩
 clear f g ih l r k;generalize p.length=pl at*;generalize q.length=E at*;generalize aC (λa b=>ay n a m b) p q=F at*;go_enter func76,ntmps76;go_wp2_with fail;refine s.mono ?_;rintro e G ⟨rfl,t⟩;go_wp2_with fail
 go_ret
 exact⟨rfl,t⟩
theorem Ie(w:World)(k b f g:Int)(s d:ByteArray)(a h:Option Addr)(l j c i:Nat)(r:Bool)(H:Hid (∀w1:World,aj w w1->am 76 #[ae a l c,ae h j i] w1 λe w'=>e=.returned (.bool r)/\aj w1 w')):am 36 #[.agg #[ab k,ab f,af s,ae a l c],.agg #[ab b,ab g,af d,ae h j i]] w λe w'=>e=.returned (.bool (k==b && f==g && s.toList==d.toList && r))/\aj w w':=by
 cases h1:k==b
 ·go_enter func36,ntmps36;go_wp2_with fail
  go_ret
  exact⟨rfl,((ap _ _).alloc (ak _) _).alloc (by simp) _⟩
 cases h2:f==g
 ·go_enter func36,ntmps36;go_wp2_with fail
  go_ret
  exact⟨rfl,((ap _ _).alloc (ak _) _).alloc (by simp) _⟩
 cases h3:s.toList==d.toList
 ·go_enter func36,ntmps36;go_wp2_with fail
  go_ret
  exact⟨rfl,((ap _ _).alloc (ak _) _).alloc (by simp) _⟩
 go_enter func36,ntmps36;go_wp2_with fail;refine(H _ (((ap _ _).alloc (ak _) _).alloc (by simp) _)).mono ?_;rintro e w1 ⟨rfl,m⟩;go_wp2_with fail
 all_goals go_ret
 all_goals exact⟨rfl,(((ap _ _).alloc (ak _) _).alloc (by simp) _).trans (m.mono (by simp;omega))⟩
theorem K5(n:Nat):Ja n:=by
 induction n with
 | zero=>intro y j c p x m;exact m.elim
 | succ n ih=>
  intro y j c p x m a f;cases j with
  | zero=>exact a.elim
  | succ j=>
  obtain⟨⟨k,E,C⟩,⟨q,pc⟩,u⟩:=y;obtain⟨⟨B,F,D⟩,⟨r,w⟩,v⟩:=c;obtain⟨⟨_,_,_,z,s⟩,d⟩:=m;obtain⟨⟨_,_,_,A,t⟩,e⟩:=a;simp only at z s d A t e;unfold maxLen at s t;refine Ie x k B E F C D q r u.length v.length pc w _ (λG h=>wS n j ih u v q r pc w p G ?_ ?_ (by omega) (by omega) (az f h.size))
  ·rcases d with d|⟨b,o,l,g,d⟩
   ·exact ah d
   ·exact ai ⟨b,o,l,g,λi c a=>⟨(d i c a).1.below (h.mono f) g,(d i c a).2.below (h.mono f)⟩⟩
  ·rcases e with e|⟨b,o,l,g,e⟩
   ·exact ah e
   ·exact ai ⟨b,o,l,g,λi c a=>⟨(e i c a).1.below (h.mono f) g,(e i c a).2.below (h.mono f)⟩⟩
theorem uN(x y:Int):(x<y/\nU x y=-1)\/(x=y/\nU x y=0)\/(y<x/\nU x y=1):=by
 unfold nU;by_cases a:x<y
 ·rw[if_pos a];exact ah ⟨a,rfl⟩
 ·rw[if_neg a];by_cases b:y<x
  ·rw[if_pos b];exact ai (ai ⟨b,rfl⟩)
  ·rw[if_neg b];exact ai (ah ⟨by omega,rfl⟩)
theorem Jo:(x y:List UInt8)->Op.bytesLess x y=true->Op.bytesLess y x=false
 | _,[],c=>by simp[Op.bytesLess]at c
 | [],_::_,_=>by simp[Op.bytesLess]
 | a::x,b::y,c=>by
  simp only[Op.bytesLess,gq,bO,aA,cm]at c;simp only[Op.bytesLess,Bool.or_eq_false_iff,decide_eq_false_iff_not,Bool.and_eq_false_iff,iz];rcases c with c|⟨rfl,c⟩
  ·rw[pw]at c;refine⟨by rw[pw];omega,ah λe=>by subst e;omega⟩
  ·exact⟨by rw[pw];omega,ai (Jo x y c)⟩
theorem Jp:(x y:List UInt8)->Op.bytesLess x y=false->Op.bytesLess y x=false->x=y
 | [],[],_,_=>rfl
 | [],_::_,h,_=>by simp[Op.bytesLess]at h
 | _::_,[],_,h=>by simp[Op.bytesLess]at h
 | a::x,b::y,h,h'=>by
  simp only[Op.bytesLess,Bool.or_eq_false_iff,decide_eq_false_iff_not,Bool.and_eq_false_iff,iz]at h h';obtain⟨c,d⟩:=h;obtain⟨f,g⟩:=h';have e:a=b:=by
   rw[pw]at c f;exact UInt8.toNat_inj.1 (by omega)
  subst e;rw[Jp x y (d.resolve_left (λn=>n rfl)) (g.resolve_left (λn=>n rfl))]
theorem xi(l:List UInt8):Op.bytesLess l l=false:=by
 induction l with
 | nil=>rfl
 | cons a l ih=>simp[Op.bytesLess,ih]
theorem JB(x y:ByteArray):(Op.bytesLess x.toList y.toList=true/\wG x y=-1)\/(x.toList=y.toList/\wG x y=0)\/(Op.bytesLess y.toList x.toList=true/\wG x y=1):=by
 unfold wG;cases h:Op.bytesLess x.toList y.toList
 ·by_cases a:x.toList=y.toList
  ·rw[a];simp
  ·have c:Op.bytesLess y.toList x.toList=true:=by
     cases h2:Op.bytesLess y.toList x.toList
     ·exact(a (Jp _ _ h h2)).elim
     ·rfl
   have b:(x.toList==y.toList)=false:=by simpa using a
   rw[b];simp[c]
 ·simp
theorem dh{x:Tm 0}(c:∀a∈ax 0 x,cg a=true):False:=by
 have:=c ((0,0,.empty),(none,0,0)) (by simp[ax]);rcases ku _ this with b|b|b|b|b|⟨b,_⟩<;>simp at b
theorem xP{h i:Type}(f:h->i->Int)(g:h->i->Bool):(p:List h)->(q:List i)->p.length=q.length->(∀a∈p,∀b∈q,(f a b=0 ↔ g a b=true))->(pG f p q=0 ↔ aC g p q=true)
 | [],[],_,_=>by simp[pG,aC]
 | [],_::_,e,_=>by simp at e
 | _::_,[],e,_=>by simp at e
 | a::p,b::q,e,H=>by
  have j:=H a (by simp) b (by simp);have m:=xP f g p q (by simpa using e) (λk n l o=>H k (by simp[n]) l (by simp[o]));simp only[pG,aC,aA];by_cases d:f a b=0
  ·rw[if_pos d,m];exact⟨λc=>⟨j.1 d,c⟩,λc=>c.2⟩
  ·rw[if_neg d];exact⟨λc=>(d c).elim,λc=>(d (j.2 c.1)).elim⟩
theorem eI(x:Nd)(b:cg x=true):(x.1.1≠2->x.1.2.2.toList=[])/\(x.1.1=2->x.1.2.1=0)/\(x.1.1=4->x.1.2.1=0)/\(x.1.1=6->x.1.2.1=0)/\(x.1.1≠4->x.2.2.1=0):=by
 have c:=ku x b;unfold cg at b;rcases c with a|a|a|a|a|⟨a,d⟩
 all_goals (rw[a]at b ⊢;simp at b ⊢;simp[b])
theorem BT:(n:Nat)->(x:Tm n)->(m:Nat)->(y:Tm m)->(∀a∈ax n x,cg a=true)->(∀a∈ax m y,cg a=true)->(xO n x m y=0 ↔ ay n x m y=true)
 | 0,_,_,_,f,_=>(dh f).elim
 | _+1,_,0,_,_,f=>(dh f).elim
 | n+1,x,m+1,y,hx,hy=>by
  have l:=eI _ (hx (x.1,(x.2.1.1,x.2.2.length,x.2.1.2)) (by simp[ax]));have j:=eI _ (hy (y.1,(y.2.1.1,y.2.2.length,y.2.1.2)) (by simp[ax]));have B:=ku _ (hx (x.1,(x.2.1.1,x.2.2.length,x.2.1.2)) (by simp[ax]));have H:=λe=>xP (λa b=>xO n a m b) (λa b=>ay n a m b) x.2.2 y.2.2 e (λa F b G=>BT n a m b (λd v=>hx d (mw F v)) (λd v=>hy d (mw G v)));simp only at l j B;simp only[xO,ay];have E:=JB x.1.2.2 y.1.2.2;have L:=uN x.1.2.1 y.1.2.1;have M:=uN x.1.1 y.1.1;have N:=uN x.2.2.length y.2.2.length;obtain⟨⟨k,C,s⟩,⟨a,c⟩,p⟩:=x;obtain⟨⟨A,w,I⟩,⟨J,K⟩,q⟩:=y;simp only at*;clear hx hy;by_cases e:k=A
  ·subst e;rw[if_pos rfl];have o:k≠4->p=[]/\q=[]:=λf=>⟨bF (l.2.2.2.2 f),bF (j.2.2.2.2 f)⟩;have r:k≠2->s.toList=[]/\I.toList=[]:=λf=>⟨l.1 f,j.1 f⟩;rcases B with g|g|g|g|g|⟨g,D⟩
   ·subst g;obtain⟨rfl,rfl⟩:=o (by decide);obtain⟨h,i⟩:=r (by decide);rw[if_pos (by decide),h,i];simp[aC];omega
   ·subst g;obtain⟨rfl,rfl⟩:=o (by decide);have z:C=0:=l.2.1 rfl;have t:w=0:=j.2.1 rfl;subst z t;rw[if_neg (by decide),if_pos rfl];simp[aC];rcases E with⟨f,u⟩|⟨f,u⟩|⟨f,u⟩
    ·refine⟨λe=>by omega,λe=>?_⟩;rw[e,xi]at f;cases f
    ·exact⟨λ_=>f,λ_=>u⟩
    ·refine⟨λe=>by omega,λe=>?_⟩;rw[e,xi]at f;cases f
   ·subst g;obtain⟨rfl,rfl⟩:=o (by decide);obtain⟨h,i⟩:=r (by decide);rw[if_pos (by decide),h,i];simp[aC];omega
   ·subst g;obtain⟨h,i⟩:=r (by decide);have z:C=0:=l.2.2.1 rfl;have t:w=0:=j.2.2.1 rfl;subst z t;rw[if_neg (by decide),if_neg (by decide),if_pos rfl,h,i];by_cases el:p.length=q.length
    ·rw[if_pos el,H el];simp
    ·rw[if_neg el,vS _ _ _ el];simp;omega
   ·subst g;obtain⟨rfl,rfl⟩:=o (by decide);obtain⟨h,i⟩:=r (by decide);rw[if_pos (by decide),h,i];simp[aC];omega
   ·subst g;obtain⟨rfl,rfl⟩:=o (by decide);obtain⟨h,i⟩:=r (by decide);have t:w=0:=j.2.2.2.1 rfl;subst D t;rw[if_neg (by decide),if_neg (by decide),if_neg (by decide),h,i];simp[aC]
  ·rw[if_neg e];have:(k==A)=false:=by simpa using e
   rw[this];simp;omega
abbrev An:=(n:Nat)×Tm n
def bU:An->Int
 | ⟨0,_⟩=>0
 | ⟨_+1,x⟩=>x.1.1
def ee(x y:An):Bool:=ay x.1 x.2 y.1 y.2
def FS(B:Nat)(w:World)(x:An):Prop:=In B w x.1 x.2
def aD(x:An):Prop:=∀a∈ax x.1 x.2,cg a=true
def iD{a c S:Type}(f:a->c->S->Option S):List a->List c->S->Option S
 | x::p,y::q,b=>(f x y b).bind (iD f p q)
 | _,_,b=>some b
def uW(b:List An)(i:Nat)(t:An):Option (List An):=
 match b[i]? with
 | some a=>if bU a=6 then some (b.set i t)else if ee a t then some b else none
 | none=>none
def gZ:(n:Nat)->Tm n->(m:Nat)->Tm m->List An->Option (List An)
 | n+1,p,m+1,t,b=>
  if p.1.1=6 then some b
  else if p.1.1=5 then uW b p.1.2.1.toNat ⟨m+1,t⟩
  else if p.1.1=4 then
   if t.1.1=4/\p.2.2.length=t.2.2.length then iD (λx y b=>gZ n x m y b) p.2.2 t.2.2 b else none
  else if ay (n+1) p (m+1) t then some b else none
 | _,_,_,_,_=>none
def Qc(x y:An)(b:List An):Option (List An):=gZ x.1 x.2 y.1 y.2 b
def kV:List (An×An)->List An->Option (List An)
 | [],b=>some b
 | (x,y)::r,b=>(Qc x y b).bind (kV r)
def jT(n m:Nat)(p:List (Tm n))(q:List (Tm m)):List (An×An):=List.zipWith (λx y=>(⟨n,x⟩,⟨m,y⟩)) p q
def uu(P:An->Prop):Prop:=∀(n:Nat)(x:Tm (n+1))(y:Tm n),P ⟨n+1,x⟩->y∈x.2.2->P ⟨n,y⟩
theorem xx{a e S:Type}(f:a->e->S->Option S)(Q:S->Prop):(p:List a)->(q:List e)->(∀x∈p,∀y∈q,∀b c,Q b->f x y b=some c->Q c)->∀b c,Q b->iD f p q b=some c->Q c
 | [],_,_,b,c,hb,h=>by simp[iD]at h;rw[<-h];exact hb
 | _::_,[],_,b,c,hb,h=>by simp[iD]at h;rw[<-h];exact hb
 | x::p,y::q,hf,b,c,hb,h=>by
  simp only[iD]at h;obtain⟨d,g,i⟩:=bB.1 h;exact xx f Q p q (λx' j l k=>hf x' (bX _ j) l (bX _ k)) d c (hf x (by simp) y (by simp) b d hb g) i
theorem Gy(P:An->Prop)(b c:List An)(i:Nat)(t:An)(f:P t)(d:b.length=4/\∀y∈b,P y)(a:uW b i t=some c):c.length=4/\∀y∈c,P y:=by
 unfold uW at a;split at a
 ·split at a
  ·obtain rfl:=aw a;refine⟨by simpa using d.1,λy g=>?_⟩;rcases sT g with e|rfl
   ·exact d.2 y e
   ·exact f
  ·split at a
   ·obtain rfl:=aw a;exact d
   ·cases a
 ·cases a
theorem kU(P:An->Prop)(d:uu P):(n:Nat)->(p:Tm n)->(m:Nat)->(t:Tm m)->P ⟨m,t⟩->∀b c,(b.length=4/\∀y∈b,P y)->gZ n p m t b=some c->(c.length=4/\∀y∈c,P y)
 | 0,_,_,_,_,_,_,_,h=>by simp[gZ]at h
 | n+1,_,0,_,_,_,_,_,h=>by simp[gZ]at h
 | n+1,p,m+1,t,ht,b,c,a,h=>by
  simp only[gZ]at h;split at h
  ·obtain rfl:=aw h;exact a
  split at h
  ·exact Gy P b c _ _ ht a h
  split at h
  ·split at h
   ·exact xx _ _ p.2.2 t.2.2 (λx g y f b c a e=>kU P d n x m y (d m t y ht f) b c a e) b c a h
   ·cases h
  ·split at h
   ·obtain rfl:=aw h;exact a
   ·cases h
theorem Gx{a c S:Type}(f:a->c->S->Option S)(p:List a)(q:List c)(k:Nat)(x:a)(y:c)(i:p[k]?=some x)(j:q[k]?=some y)(b:S):iD f (p.drop k) (q.drop k) b=(f x y b).bind (iD f (p.drop (k+1)) (q.drop (k+1))):=by
 obtain⟨g,d⟩:=aO.1 i;obtain⟨h,e⟩:=aO.1 j;rw[eA g,eA h,d,e];rfl
theorem KM(B:Nat)(w:World):uu (FS B w):=by
 intro n h i d c;rcases d.2 with a|⟨b,o,j,k,a⟩
 ·have e:h.2.2=[]:=a;rw[e]at c;cases c
 ·obtain⟨g,f⟩:=cM c;exact(a g i f).2
theorem aU:uu aD:=λ_ _ _ b d a c=>b a (mw d c)
theorem Hl{P Q:An->Prop}(c:uu P)(d:uu Q):uu λx=>P x/\Q x:=λn x y a b=>⟨c n x y a.1 b,d n x y a.2 b⟩
end Go.Proofs.YtmmahddlcldmiaaGreatDoor
