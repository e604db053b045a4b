/- What is proved here: plain facts and contracts that the claimed theorem stands on. No condition but those that each names. -/
import Derived.Test.YtckamaoibonjcaaGreatH02
namespace Go.Proofs.YtckamaoibonjcaaGreat
open Go.RowKit
set_option maxHeartbeats 400000
theorem vQ(e:Int):(l:List Nd)->(a:List Int)->(m:Int)->l.length=a.length->B8 e l a m=0->∀y∈l,cq y=true
 | [],_,_,_,_=>by simp
 | x::l,[],_,h,_=>by simp at h
 | x::l,d::a,m,h,h0=>by
  simp only[B8]at h0;by_cases b:cq x=true
  ·rw[if_pos b]at h0;intro y c;rcases cB.1 c with rfl|c
   ·exact b
   ·exact vQ e l a _ (by simpa using h) h0 y c
  ·rw[if_neg b]at h0;cases h0
theorem qq(n:Nat)(x:Tm n)(a:bq n x=0):∀y∈av n x,cq y=true:=
 vQ _ _ _ _ (jE n x 0).symm a
theorem ol{n:Nat}{x:Tm (n+1)}{y:Tm n}(b:y∈x.2.2){a:Nd}(c:a∈av n y):a∈av (n+1) x:=by
 simp only[av,cB,jg];exact ah ⟨y,b,c⟩
theorem jM(x:Nd)(a:cq x=true):x.1.1=1\/x.1.1=2\/x.1.1=3\/x.1.1=4\/x.1.1=5\/(x.1.1=6/\x.1.2.1=0):=by
 by_cases b:x.1.1=1
 ·exact ag b
 by_cases c:x.1.1=2
 ·exact ah (ag c)
 by_cases d:x.1.1=3
 ·exact ah (ah (ag d))
 by_cases e:x.1.1=4
 ·exact ah (ah (ah (ag e)))
 by_cases f:x.1.1=5
 ·exact ah (ah (ah (ah (ag f))))
 by_cases g:x.1.1=6
 ·refine ah (ah (ah (ah (ah ⟨g,?_⟩))));unfold cq at a;rw[if_neg b,if_neg c,if_neg d,if_neg e,if_neg f,if_pos g]at a;simp only[aB,bV]at a;exact a.1.2
 ·unfold cq at a;rw[if_neg b,if_neg c,if_neg d,if_neg e,if_neg f,if_neg g]at a;cases a
def ay{c d:Type}(f:c->d->Bool):List c->List d->Bool
 | [],[]=>true
 | a::p,b::q=>f a b && ay f p q
 | _,_=>false
def aw:(n:Nat)->Tm n->(m:Nat)->Tm m->Bool
 | n+1,x,m+1,y=>x.1.1==y.1.1 && x.1.2.1==y.1.2.1 && x.1.2.2.toList==y.1.2.2.toList && ay (λa b=>aw n a m b) x.2.2 y.2.2
 | _,_,_,_=>false
theorem eG{a b:Bool}(c:a=b):Ending.returned (.bool a)=.returned (.bool b):=by rw[c]
theorem C8{c d:Type}(f:c->d->Bool)(p:List c)(q:List d)(k:Nat)(a:c)(b:d)(j:p[k]?=some a)(l:q[k]?=some b):ay f (p.drop k) (q.drop k)=(f a b && ay f (p.drop (k+1)) (q.drop (k+1))):=by
 obtain⟨h,e⟩:=aM.1 j;obtain⟨i,g⟩:=aM.1 l;rw[ee h,ee i,e,g];rfl
theorem uU{c d:Type}(f:c->d->Bool):(p:List c)->(q:List d)->¬p.length=q.length->ay f p q=false
 | [],[],h=>by simp at h
 | [],_::_,_=>rfl
 | _::_,[],_=>rfl
 | a::p,b::q,h=>by
  simp only[ay];rw[uU f p q (by simpa using h)];simp
def G5(n:Nat):Prop:=∀(x:Tm n)(m:Nat)(y:Tm m)(B:Nat)(w:World),In B w n x->In B w m y->B<=w.heap.size->
 ak 14 #[df n x,df m y] w λe w'=>e=.returned (.bool (aw n x m y))/\ai w w'
theorem Iq(p q:Nat)(a c:Option Addr)(pc d:Nat)(w:World)(_hpc:p<=9223372036854775807)(_hqc:q<=9223372036854775807)(b:((p:Int)==(q:Int))=false):ak 33 #[.slice a p pc,.slice c q d,.func (Fn.func 14) #[] #[]] w λe w'=>e=.returned (.bool false)/\w'=w:=by
 have f:((p:Int) !=(q:Int))=true:=by simpa using b
 go_enter Tryz.func33,Tryz.ntmps33;go_wp2_with fail
 go_ret
 exact⟨rfl,rfl⟩
theorem vV(a c:Option Addr)(pc d:Nat)(w:World):ak 33 #[.slice a 0 pc,.slice c 0 d,.func (Fn.func 14) #[] #[]] w λe w'=>e=.returned (.bool true)/\w'=w:=by
 go_enter Tryz.func33,Tryz.ntmps33;go_wp2_with fail
 go_loop [17] (λb=>b=ab 0) (λ_=>0)
 case atStart=>rfl
 case round=>
  obtain rfl:=hrel;go_wp2_with fail
  go_ret
  exact⟨rfl,rfl⟩
theorem Ip(n m:Nat)(ih:G5 n)(p:List (Tm n))(q:List (Tm m))(len:Nat)(G:Hid (p.length=len))(I:Hid (q.length=len))(s po t J pc N:Nat)(B:Nat)(w:World)(S:len<=9223372036854775807)(L:s<B)(M:t<B)(F:∀(i:Nat)(y:Tm n),p[i]?=some y->dr w s (po+i*4) n y/\In B w n y)(H:∀(i:Nat)(y:Tm m),q[i]?=some y->dr w t (J+i*4) m y/\In B w m y)(g:B<=w.heap.size):ak 33 #[.slice (some ⟨s,po,none⟩) len pc,.slice (some ⟨t,J,none⟩) len N,.func (Fn.func 14) #[] #[]] w λe w'=> e=.returned (.bool (ay (λa b=>aw n a m b) p q))/\ai w w':=by
 go_enter Tryz.func33,Tryz.ntmps33;go_wp2_with fail;go_loopw [17] (λi wr=>∃k:Nat,k<=len/\i=ab k/\ai w wr/\Hid (ay (λa b=>aw n a m b) (p.drop k) (q.drop k)=ay (λa b=>aw n a m b) p q)) (λi _=>len-(intOf i).toNat)
 case atStart=>exact⟨0,by omega,rfl,am _ _,rfl⟩
 case round=>
  obtain⟨k,P,rfl,d,x⟩:=hrel;by_cases E:k<len
  ·obtain⟨c,z⟩:∃c,p[k]?=some c:=⟨p[k]'(by rw[G.out];exact E),aE _⟩;obtain⟨y,A⟩:∃y,q[k]?=some y:=⟨q[k]'(by rw[I.out];exact E),aE _⟩;obtain⟨j,l⟩:=F k c z;obtain⟨o,r⟩:=H k y A;have h:=ao (C8 (λa b=>aw n a m b) p q k c y z A);replace j:=j.below (d.mono g) L;replace o:=o.below (d.mono g) M;replace l:=l.below (d.mono g);replace r:=r.below (d.mono g);clear F H z A;cases n with
   | zero=>exact j.elim
   | succ n=>
   cases m with
   | zero=>exact o.elim
   | succ m=>
   obtain⟨V,W,X,Y⟩:=j;obtain⟨y0,y1,y2,aa⟩:=o;have v:B<=wr.heap.size:=ax g d.size
   have K:Hid (∀(f:World),ai wr f->ak 14 #[.agg #[ab c.1.1,ab c.1.2.1,ae c.1.2.2,.slice c.2.1.1 c.2.2.length c.2.1.2],.agg #[ab y.1.1,ab y.1.2.1,ae y.1.2.2,.slice y.2.1.1 y.2.2.length y.2.1.2]] f λe w'=>e=.returned (.bool (aw (n+1) c (m+1) y))/\ai f w'):=
    λf u=>ih c (m+1) y B f (l.below (u.mono v)) (r.below (u.mono v)) (ax v u.size)
   clear ih l r;replace h:Hid (ay (λa b=>aw (n+1) a (m+1) b) (p.drop k) (q.drop k)=(aw (n+1) c (m+1) y && ay (λa b=>aw (n+1) a (m+1) b) (p.drop (k+1)) (q.drop (k+1)))):=h;generalize aw (n+1) c (m+1) y=O at*;generalize c.2.2.length=Z at*;generalize y.2.2.length=yl at*;have Q:(0:Int)<=(k:Int):=by omega
   have R:(k:Int)<(len:Int):=by omega
   have T:s<wr.heap.size:=by omega
   have U:t<wr.heap.size:=by omega
   go_wp2_with fail;refine(K.out _ (((am _ _).alloc (aj _) _).alloc (by simp) _)).mono ?_;rintro e f ⟨rfl,C⟩;have D:ai w f:=(d.trans ((((am _ _).alloc (aj _) _).alloc (by simp) _).mono d.size)).trans (C.mono (by have:=d.size;simp;omega));clear C;cases O with
   | true=>
    go_wp2_with fail;go_roundw
    case rel=>exact⟨k+1,by omega,by go_num,D,by rw[<-x.out,h.out];rfl⟩
    case measure=>simp[intOf];omega
   | false=>
    go_wp2_with fail
    go_ret
    exact⟨eG (by rw[<-x.out,h.out];rfl),D⟩
  ·go_wp2_with fail
   go_ret
   refine⟨eG ?_,d⟩;rw[<-x.out,gd (by rw[G.out];omega),gd (by rw[I.out];omega)];rfl
theorem o7(n m:Nat)(ih:G5 n)(p:List (Tm n))(q:List (Tm m))(a c:Option Addr)(pc h:Nat)(B:Nat)(w:World)(f:p=[]\/∃b o,a=some ⟨b,o,none⟩/\b<B/\∀(i:Nat)(y:Tm n),p[i]?=some y->dr w b (o+i*4) n y/\In B w n y)(g:q=[]\/∃b o,c=some ⟨b,o,none⟩/\b<B/\∀(i:Nat)(y:Tm m),q[i]?=some y->dr w b (o+i*4) m y/\In B w m y)(l:p.length<=9223372036854775807)(r:q.length<=9223372036854775807)(k:B<=w.heap.size):ak 15 #[.slice a p.length pc,.slice c q.length h] w λe w'=>e=.returned (.bool (ay (λa b=>aw n a m b) p q))/\ai w w':=by
 have s:Hid (ak 33 #[.slice a p.length pc,.slice c q.length h,.func (Fn.func 14) #[] #[]] w λe w'=>
   e=.returned (.bool (ay (λa b=>aw n a m b) p q))/\ai w w'):=by
  by_cases d:p.length=q.length
  ·rcases f with f|⟨A,po,rfl,v,f⟩
   ·subst f;have x:q=[]:=bB d.symm;subst x;refine(vV a c pc h w).mono ?_;rintro e w' ⟨rfl,rfl⟩;exact⟨rfl,am _ _⟩
   ·rcases g with g|⟨C,D,rfl,z,g⟩
    ·subst g;have u:p=[]:=bB d;subst u;refine(vV _ c pc h w).mono ?_;rintro e w' ⟨rfl,rfl⟩;exact⟨rfl,am _ _⟩
    ·have j:=Ip n m ih p q p.length rfl d.symm A po C D pc h B w (by omega) v z f g k;rw[d]at j;rw[d];exact j
  ·rw[uU _ _ _ d];refine(Iq p.length q.length a c pc h w l r (by simp;omega)).mono ?_;rintro e w' ⟨rfl,rfl⟩;exact⟨rfl,am _ _⟩
 clear f g ih l r k;generalize p.length=pl at*;generalize q.length=E at*;generalize ay (λa b=>aw n a m b) p q=F at*;go_enter Tryz.func15,Tryz.ntmps15;go_wp2_with fail;refine s.out.mono ?_;rintro e G ⟨rfl,t⟩;go_wp2_with fail
 go_ret
 exact⟨rfl,t⟩
theorem Gp(w:World)(k b f g:Int)(s d:ByteArray)(a h:Option Addr)(l j c i:Nat)(r:Bool)(H:Hid (∀w1:World,ai w w1->ak 15 #[.slice a l c,.slice h j i] w1 λe w'=>e=.returned (.bool r)/\ai w1 w')):ak 14 #[.agg #[ab k,ab f,ae s,.slice a l c],.agg #[ab b,ab g,ae d,.slice h j i]] w λe w'=>e=.returned (.bool (k==b && f==g && s.toList==d.toList && r))/\ai w w':=by
 cases h1:k==b
 ·go_enter Tryz.func14,Tryz.ntmps14;go_wp2_with fail
  go_ret
  exact⟨rfl,((am _ _).alloc (aj _) _).alloc (by simp) _⟩
 cases h2:f==g
 ·go_enter Tryz.func14,Tryz.ntmps14;go_wp2_with fail
  go_ret
  exact⟨rfl,((am _ _).alloc (aj _) _).alloc (by simp) _⟩
 cases h3:s.toList==d.toList
 ·go_enter Tryz.func14,Tryz.ntmps14;go_wp2_with fail
  go_ret
  exact⟨rfl,((am _ _).alloc (aj _) _).alloc (by simp) _⟩
 go_enter Tryz.func14,Tryz.ntmps14;go_wp2_with fail;refine(H.out _ (((am _ _).alloc (aj _) _).alloc (by simp) _)).mono ?_;rintro e w1 ⟨rfl,m⟩;go_wp2_with fail
 all_goals go_ret
 all_goals exact⟨rfl,(((am _ _).alloc (aj _) _).alloc (by simp) _).trans (m.mono (by simp;omega))⟩
theorem A7(n:Nat):G5 n:=by
 induction n with
 | zero=>intro y j c p x m;exact m.elim
 | succ n ih=>
  intro y j c p x m a f;cases j with
  | zero=>exact a.elim
  | succ j=>
  obtain⟨⟨k,E,C⟩,⟨q,pc⟩,u⟩:=y;obtain⟨⟨B,F,D⟩,⟨r,w⟩,v⟩:=c;obtain⟨⟨_,_,_,z,s⟩,d⟩:=m;obtain⟨⟨_,_,_,A,t⟩,e⟩:=a;simp only at z s d A t e;unfold maxLen at s t;refine Gp x k B E F C D q r u.length v.length pc w _ (λG h=>o7 n j ih u v q r pc w p G ?_ ?_ (by omega) (by omega) (ax f h.size))
  ·rcases d with d|⟨b,o,l,g,d⟩
   ·exact ag d
   ·exact ah ⟨b,o,l,g,λi c a=>⟨(d i c a).1.below (h.mono f) g,(d i c a).2.below (h.mono f)⟩⟩
  ·rcases e with e|⟨b,o,l,g,e⟩
   ·exact ag e
   ·exact ah ⟨b,o,l,g,λi c a=>⟨(e i c a).1.below (h.mono f) g,(e i c a).2.below (h.mono f)⟩⟩
theorem tW(x y:Int):(x<y/\nv x y=-1)\/(x=y/\nv x y=0)\/(y<x/\nv x y=1):=by
 unfold nv;by_cases a:x<y
 ·rw[if_pos a];exact ag ⟨a,rfl⟩
 ·rw[if_neg a];by_cases b:y<x
  ·rw[if_pos b];exact ah (ah ⟨b,rfl⟩)
  ·rw[if_neg b];exact ah (ag ⟨by omega,rfl⟩)
theorem Hk:(x y:List UInt8)->Op.bytesLess x y=true->Op.bytesLess y x=false
 | _,[],c=>by simp[Op.bytesLess]at c
 | [],_::_,_=>by simp[Op.bytesLess]
 | a::x,b::y,c=>by
  simp only[Op.bytesLess,g9,bX,aB,bV]at c;simp only[Op.bytesLess,Bool.or_eq_false_iff,decide_eq_false_iff_not,Bool.and_eq_false_iff,gi];rcases c with c|⟨rfl,c⟩
  ·rw[oK]at c;refine⟨by rw[oK];omega,ag λe=>by subst e;omega⟩
  ·exact⟨by rw[oK];omega,ah (Hk x y c)⟩
theorem Hl:(x y:List UInt8)->Op.bytesLess x y=false->Op.bytesLess y x=false->x=y
 | [],[],_,_=>rfl
 | [],_::_,h,_=>by simp[Op.bytesLess]at h
 | _::_,[],_,h=>by simp[Op.bytesLess]at h
 | a::x,b::y,h,h'=>by
  simp only[Op.bytesLess,Bool.or_eq_false_iff,decide_eq_false_iff_not,Bool.and_eq_false_iff,gi]at h h';obtain⟨c,d⟩:=h;obtain⟨f,g⟩:=h';have e:a=b:=by
   rw[oK]at c f;exact UInt8.toNat_inj.1 (by omega)
  subst e;rw[Hl x y (d.resolve_left (λn=>n rfl)) (g.resolve_left (λn=>n rfl))]
theorem vP(l:List UInt8):Op.bytesLess l l=false:=by
 induction l with
 | nil=>rfl
 | cons a l ih=>simp[Op.bytesLess,ih]
theorem Hv(x y:ByteArray):(Op.bytesLess x.toList y.toList=true/\vu x y=-1)\/(x.toList=y.toList/\vu x y=0)\/(Op.bytesLess y.toList x.toList=true/\vu x y=1):=by
 unfold vu;cases h:Op.bytesLess x.toList y.toList
 ·by_cases a:x.toList=y.toList
  ·rw[a];simp
  ·have c:Op.bytesLess y.toList x.toList=true:=by
     cases h2:Op.bytesLess y.toList x.toList
     ·exact(a (Hl _ _ h h2)).elim
     ·rfl
   have b:(x.toList==y.toList)=false:=by simpa using a
   rw[b];simp[c]
 ·simp
theorem cZ{x:Tm 0}(c:∀a∈av 0 x,cq a=true):False:=by
 have:=c ((0,0,.empty),(none,0,0)) (by simp[av]);rcases jM _ this with b|b|b|b|b|⟨b,_⟩<;>simp at b
theorem wE{h i:Type}(f:h->i->Int)(g:h->i->Bool):(p:List h)->(q:List i)->p.length=q.length->(∀a∈p,∀b∈q,(f a b=0 ↔ g a b=true))->(oT f p q=0 ↔ ay g p q=true)
 | [],[],_,_=>by simp[oT,ay]
 | [],_::_,e,_=>by simp at e
 | _::_,[],e,_=>by simp at e
 | a::p,b::q,e,H=>by
  have j:=H a (by simp) b (by simp);have m:=wE f g p q (by simpa using e) (λk n l o=>H k (by simp[n]) l (by simp[o]));simp only[oT,ay,aB];by_cases d:f a b=0
  ·rw[if_pos d,m];exact⟨λc=>⟨j.1 d,c⟩,λc=>c.2⟩
  ·rw[if_neg d];exact⟨λc=>(d c).elim,λc=>(d (j.2 c.1)).elim⟩
theorem eq(x:Nd)(b:cq x=true):(x.1.1≠2->x.1.2.2.toList=[])/\(x.1.1=2->x.1.2.1=0)/\(x.1.1=4->x.1.2.1=0)/\(x.1.1=6->x.1.2.1=0)/\(x.1.1≠4->x.2.2.1=0):=by
 have c:=jM x b;unfold cq at b;rcases c with a|a|a|a|a|⟨a,d⟩
 all_goals (rw[a]at b ⊢;simp at b ⊢;simp[b])
theorem AO:(n:Nat)->(x:Tm n)->(m:Nat)->(y:Tm m)->(∀a∈av n x,cq a=true)->(∀a∈av m y,cq a=true)->(wC n x m y=0 ↔ aw n x m y=true)
 | 0,_,_,_,f,_=>(cZ f).elim
 | _+1,_,0,_,_,f=>(cZ f).elim
 | n+1,x,m+1,y,hx,hy=>by
  have l:=eq _ (hx (x.1,(x.2.1.1,x.2.2.length,x.2.1.2)) (by simp[av]));have j:=eq _ (hy (y.1,(y.2.1.1,y.2.2.length,y.2.1.2)) (by simp[av]));have C:=jM _ (hx (x.1,(x.2.1.1,x.2.2.length,x.2.1.2)) (by simp[av]));have I:=λe=>wE (λa b=>wC n a m b) (λa b=>aw n a m b) x.2.2 y.2.2 e (λa G b H=>AO n a m b (λd w=>hx d (ol G w)) (λd w=>hy d (ol H w)));simp only at l j C;simp only[wC,aw];have F:=Hv x.1.2.2 y.1.2.2;have M:=tW x.1.2.1 y.1.2.1;have N:=tW x.1.1 y.1.1;have O:=tW x.2.2.length y.2.2.length;obtain⟨⟨k,D,s⟩,⟨a,c⟩,p⟩:=x;obtain⟨⟨B,z,J⟩,⟨K,L⟩,q⟩:=y;simp only at*;clear hx hy;by_cases e:k=B
  ·subst e;rw[if_pos rfl];have o:k≠4->p=[]/\q=[]:=λf=>⟨bB (l.2.2.2.2 f),bB (j.2.2.2.2 f)⟩;have r:k≠2->s.toList=[]/\J.toList=[]:=λf=>⟨l.1 f,j.1 f⟩;rcases C with g|g|g|g|g|⟨g,E⟩
   ·subst g;obtain⟨rfl,rfl⟩:=o (by decide);obtain⟨h,i⟩:=r (by decide);rw[if_pos (by decide),h,i];simp[ay];omega
   ·subst g;obtain⟨rfl,rfl⟩:=o (by decide);have A:D=0:=l.2.1 rfl;have t:z=0:=j.2.1 rfl;subst A t;rw[if_neg (by decide),if_pos rfl];simp[ay];rcases F with⟨f,v⟩|⟨f,v⟩|⟨f,v⟩
    ·refine⟨λe=>by omega,λe=>?_⟩;rw[e,vP]at f;cases f
    ·exact⟨λ_=>f,λ_=>v⟩
    ·refine⟨λe=>by omega,λe=>?_⟩;rw[e,vP]at f;cases f
   ·subst g;obtain⟨rfl,rfl⟩:=o (by decide);obtain⟨h,i⟩:=r (by decide);rw[if_pos (by decide),h,i];simp[ay];omega
   ·subst g;obtain⟨h,i⟩:=r (by decide);have A:D=0:=l.2.2.1 rfl;have t:z=0:=j.2.2.1 rfl;subst A t;rw[if_neg (by decide),if_neg (by decide),if_pos rfl,h,i];by_cases u:p.length=q.length
    ·rw[if_pos u,I u];simp
    ·rw[if_neg u,uU _ _ _ u];simp;omega
   ·subst g;obtain⟨rfl,rfl⟩:=o (by decide);obtain⟨h,i⟩:=r (by decide);rw[if_pos (by decide),h,i];simp[ay];omega
   ·subst g;obtain⟨rfl,rfl⟩:=o (by decide);obtain⟨h,i⟩:=r (by decide);have t:z=0:=j.2.2.2.1 rfl;subst E t;rw[if_neg (by decide),if_neg (by decide),if_neg (by decide),h,i];simp[ay]
  ·rw[if_neg e];have:(k==B)=false:=by simpa using e
   rw[this];simp;omega
abbrev An:=(n:Nat)×Tm n
def bN:An->Int
 | ⟨0,_⟩=>0
 | ⟨_+1,x⟩=>x.1.1
def dQ(x y:An):Bool:=aw x.1 x.2 y.1 y.2
def EF(B:Nat)(w:World)(x:An):Prop:=In B w x.1 x.2
def aA(x:An):Prop:=∀a∈av x.1 x.2,cq a=true
def ii{a c S:Type}(f:a->c->S->Option S):List a->List c->S->Option S
 | x::p,y::q,b=>(f x y b).bind (ii f p q)
 | _,_,b=>some b
def uc(b:List An)(i:Nat)(t:An):Option (List An):=
 match b[i]? with
 | some a=>if bN a=6 then some (b.set i t)else if dQ a t then some b else none
 | none=>none
def gN:(n:Nat)->Tm n->(m:Nat)->Tm m->List An->Option (List An)
 | n+1,p,m+1,t,b=>
  if p.1.1=6 then some b
  else if p.1.1=5 then uc b p.1.2.1.toNat ⟨m+1,t⟩
  else if p.1.1=4 then
   if t.1.1=4/\p.2.2.length=t.2.2.length then ii (λx y b=>gN n x m y b) p.2.2 t.2.2 b else none
  else if aw (n+1) p (m+1) t then some b else none
 | _,_,_,_,_=>none
def Ow(x y:An)(b:List An):Option (List An):=gN x.1 x.2 y.1 y.2 b
def kv:List (An×An)->List An->Option (List An)
 | [],b=>some b
 | (x,y)::r,b=>(Ow x y b).bind (kv r)
def jw(n m:Nat)(p:List (Tm n))(q:List (Tm m)):List (An×An):=List.zipWith (λx y=>(⟨n,x⟩,⟨m,y⟩)) p q
def tE(P:An->Prop):Prop:=∀(n:Nat)(x:Tm (n+1))(y:Tm n),P ⟨n+1,x⟩->y∈x.2.2->P ⟨n,y⟩
theorem vZ{a e S:Type}(f:a->e->S->Option S)(Q:S->Prop):(p:List a)->(q:List e)->(∀x∈p,∀y∈q,∀b c,Q b->f x y b=some c->Q c)->∀b c,Q b->ii f p q b=some c->Q c
 | [],_,_,b,c,hb,h=>by simp[ii]at h;rw[<-h];exact hb
 | _::_,[],_,b,c,hb,h=>by simp[ii]at h;rw[<-h];exact hb
 | x::p,y::q,hf,b,c,hb,h=>by
  simp only[ii]at h;obtain⟨d,g,i⟩:=br.1 h;exact vZ f Q p q (λx' j l k=>hf x' (bH _ j) l (bH _ k)) d c (hf x (by simp) y (by simp) b d hb g) i
theorem Fl(P:An->Prop)(b c:List An)(i:Nat)(t:An)(f:P t)(d:b.length=4/\∀y∈b,P y)(a:uc b i t=some c):c.length=4/\∀y∈c,P y:=by
 unfold uc at a;split at a
 ·split at a
  ·obtain rfl:=au a;refine⟨by simpa using d.1,λy g=>?_⟩;rcases rY g with e|rfl
   ·exact d.2 y e
   ·exact f
  ·split at a
   ·obtain rfl:=au a;exact d
   ·cases a
 ·cases a
theorem ku(P:An->Prop)(d:tE P):(n:Nat)->(p:Tm n)->(m:Nat)->(t:Tm m)->P ⟨m,t⟩->∀b c,(b.length=4/\∀y∈b,P y)->gN n p m t b=some c->(c.length=4/\∀y∈c,P y)
 | 0,_,_,_,_,_,_,_,h=>by simp[gN]at h
 | n+1,_,0,_,_,_,_,_,h=>by simp[gN]at h
 | n+1,p,m+1,t,ht,b,c,a,h=>by
  simp only[gN]at h;split at h
  ·obtain rfl:=au h;exact a
  split at h
  ·exact Fl P b c _ _ ht a h
  split at h
  ·split at h
   ·exact vZ _ _ p.2.2 t.2.2 (λx g y f b c a e=>ku P d n x m y (d m t y ht f) b c a e) b c a h
   ·cases h
  ·split at h
   ·obtain rfl:=au h;exact a
   ·cases h
theorem Fk{a c S:Type}(f:a->c->S->Option S)(p:List a)(q:List c)(k:Nat)(x:a)(y:c)(i:p[k]?=some x)(j:q[k]?=some y)(b:S):ii f (p.drop k) (q.drop k) b=(f x y b).bind (ii f (p.drop (k+1)) (q.drop (k+1))):=by
 obtain⟨g,d⟩:=aM.1 i;obtain⟨h,e⟩:=aM.1 j;rw[ee g,ee h,d,e];rfl
theorem Je(B:Nat)(w:World):tE (EF B w):=by
 intro n h i d c;rcases d.2 with a|⟨b,o,j,k,a⟩
 ·have e:h.2.2=[]:=a;rw[e]at c;cases c
 ·obtain⟨g,f⟩:=cJ c;exact(a g i f).2
theorem aR:tE aA:=λ_ _ _ b d a c=>b a (ol d c)
theorem F8{P Q:An->Prop}(c:tE P)(d:tE Q):tE λx=>P x/\Q x:=λn x y a b=>⟨c n x y a.1 b,d n x y a.2 b⟩
end Go.Proofs.YtckamaoibonjcaaGreat
