/- Proved here: plain facts and contracts. No condition but what each names. -/
import Derived.Test.YthjclakhibnamaaGreatDoorD04
import Derived.Lib.SliceRun
import Derived.Deep.RegionLaw
import Derived.Laws.CopyRow
import Derived.Maps.RangeWalk
import Derived.WideKeyPair
import Derived.WideKeyEntry
import Derived.OrdersHeld
import Derived.Maps.OwnSet
import Derived.StringKeys
namespace Go.Proofs.YthjclakhibnamaaGreatDoor
open Go.RowKit Go.Proofs.Tryz
open Go.RowKit Go.Maps
set_option maxHeartbeats 4000000
set_option maxRecDepth 100000
def xx(N:Nat):Tm (N+1):=cB 0 0 N
def Bo(N:Nat)(E:Int)(o:Option (Tm (N+1)))(w:ah)(e:Ending)(w':ah):Prop:=
 ∃a:Tm (N+1),e=aw (ax #[dG (N+1) a,ae (GJ E (oR E o))])/\Hid (ap w w'/\In w'.heap.size w' (N+1) a/\cG (λb=>w.heap.size<=b) (N+1) a/\aK (N+1) a (N+1) ((oR E o).getD (xx N))=true)
variable{y:An}{bd:Bool}{s:ByteArray}{D:DataW Unit}{x E room self:Int}{j k:Int×Int}{b:List An}{nm:List ByteArray}{xs:List Value}{u B N base c g m n p q sz:Nat}{S:Nat->Prop}{row:Option Nat}{h:Type}{T e t:TypeId}{o lv mv tv v:Value}{w w' w1 w2 w4:World}{z w0 wr:ah}{a:ay}{l A C F v0 v1 v2 v3:az}{f:h->List az}{i:(Nat->Prop)->h->Prop}{r:Nat->ah->h->Prop}
theorem pU{o:Option (Tm (N+1))}{w w':ah}(b:ap w w')(a:oR E o=none)(c:x=GJ E (oR E o)):Bo N E o w (aw (ax #[aB 0 0 .empty none 0 0,ae x])) w':=by
 refine⟨xx N,by rw[c];rfl,b,(lY N 0 0 jS jS _ _ (λ_=>True)).1,(lY N 0 0 jS jS 0 w _).2,?_⟩;rw[a];exact yx N 0 0
theorem NW{o:Option (Tm (N+1))}{a:Tm (N+1)}{w w1 w2:ah}{y:Tm (N+1)}(e:E=0)(m:o=some a)(k:bL (N+1) a=0)(f:ap w w1)(n:w.heap.size<=q)(s:q<w1.heap.size)(h:ap w1 w2)(p:In w2.heap.size w2 (N+1) y)(i:cG (λq=>w1.heap.size<=q) (N+1) y)(r:aK (N+1) y (N+1) a=true)(c:ap w2 z)(v0 v1 v2 v3:az):Bo N E o w (aw (ax #[aB y.1.1 y.1.2.1 y.1.2.2 y.2.1.1 y.2.2.length y.2.1.2,ae 0])) (dl z q 0 v0 v1 v2 v3):=by
 have g:=f.size;have j:=(f.trans (h.mono g)).trans (c.mono (aG g h.size));have d:oR E o=some a:=by simp[oR,e,m,k]
 refine⟨y,by rw[d];simp[GJ,e,dG],dy j n _ _ _ _,?_,i.mono λb l=>by omega,by rw[d];exact r⟩;rw[bK];exact In.off (P:=λb=>w1.heap.size<=b) (λb l=>bz (by omega) _ _ _ _) i ((p.below c).mono c.size)
theorem C9(a:GK x bd self=0):x=0/\bd=true/\1<=self/\self<=99:=by
 unfold GK at a;split at a
 ·split at a
  ·split at a
   ·rename_i b c d;exact⟨b,c,d⟩
   ·cases a
  ·cases a
 ·rename_i b;exact absurd a b
theorem JK{b:List (Tm m)}{x:Tm (n+1)}{a:Tm (m+n+1)}(c:bL (n+1) x=0)(d:gH m b=true)(h:vl m b self (n+1) x=some a):(aI (m+n+1) a).length<=2097152:=by
 have f:=jQ c;have e:=DE m b self 201 (by omega) (λi g=>jQ ((iC d).2 i g).1) (n+1) x a h;have:201*(aI (n+1) x).length<=201*201:=Nat.mul_le_mul_left 201 f;exact aG e (by omega)
theorem vk(w:ah)(a b c d:az)(t1 t2:TypeId):ap w ((w.alloc (.cells #[a,b,c,d] t1)).alloc (.cells #[ae 0,ae 0,ag .empty,af none 0 0] t2))/\oN (w.heap.size+1) ((w.alloc (.cells #[a,b,c,d] t1)).alloc (.cells #[ae 0,ae 0,ag .empty,af none 0 0] t2)):=by
 refine⟨(aW _ _).alloc (by simp) _,⟨?_,?_,?_,?_⟩,⟨?_,?_,?_,?_⟩,?_⟩<;>simp[go_sem]
theorem FN{w w':ah}{y0 y1 y2 b:az}{t1 t2:TypeId}(c:Below ((w.alloc (.cells #[l,A,C,F] t1)).alloc (.cells #[y0,y1,y2,b] t2)).heap.size ((w.alloc (.cells #[l,A,C,F] t1)).alloc (.cells #[y0,y1,y2,b] t2)) w'):ai w' w.heap.size 0 l/\ai w' w.heap.size 1 A/\ai w' w.heap.size 2 C/\ai w' w.heap.size 3 F:=by
 have a:=λo=>c.cell (p:=⟨w.heap.size,o,none⟩) (by simp;omega);exact⟨(a 0).trans (by simp[go_sem]),(a 1).trans (by simp[go_sem]),(a 2).trans (by simp[go_sem]),(a 3).trans (by simp[go_sem])⟩
theorem Da(N:Nat)(o:Option (Tm (N+1)))(a:ay)(U c:Nat)(self:Int)(Z aa:Int)(ab:aq)(xa:ay)(ad xc:Nat)(l:Int)(bd:Bool)(w:ah)(ai:Hid (∀w1,ap w w1->au 53 #[aB Z aa ab xa ad xc] w1 λe w'=>e=aw (ae l)/\ap w1 w'))(ag:Hid (∀w1,ap w w1->au 225 #[af a U c] w1 λe w'=>e=aw (.bool bd)/\ap w1 w'))(r:Hid (GK l bd self=0->∀w1,ap w w1->au 231 #[.agg #[af a U c,ae self],aB Z aa ab xa ad xc] w1 (kO (N+1) o w1)))(p:Hid (GK l bd self=0->∀(y f:Tm (N+1))(w1:ah),o=some f->aK (N+1) y (N+1) f=true->In w1.heap.size w1 (N+1) y->au 53 #[aB y.1.1 y.1.2.1 y.1.2.2 y.2.1.1 y.2.2.length y.2.1.2] w1 λe w'=>e=aw (ae (bL (N+1) f))/\ap w1 w')):au 205 #[aB Z aa ab xa ad xc,af a U c,ae self] w (Bo N (GK l bd self) o w):=by
 obtain⟨E,Q⟩:∃E,E=GK l bd self:=⟨_,rfl⟩;rw[<-Q]at r p ⊢;have m:=av Q;clear Q;go_enter func205,ntmps205;go_wp2_with fail;refine(ai _ (vk w _ _ _ _ _ _).1).mono ?_;rintro e w1 ⟨rfl,I⟩;have am:=av (FN I);have A:Hid (ap w w1):=(vk w _ _ _ _ _ _).1.trans (I.mono (vk w _ _ _ _ _ _).1.size);have F:=av ((vk w _ _ _ _ _ _).2.below I);clear I ai;by_cases d:l=0
 case neg=>
  have aL:(l !=0)=true:=by simpa using d
  have b:Hid (E=l/\l≠0):=⟨by rw[m.out];simp[GK,d],d⟩;obtain⟨⟨g,h,i,j⟩,⟨f0,f1,f2,f3⟩,x⟩:=F.out;clear r m d p;go_wp2_with fail;exact aE (v:=ax #[aB 0 0 .empty none 0 0,ae l]) (by simp[results,results205,go_sem,g,h,i,j];rfl) rfl (pU (dy A (by omega) _ _ _ _) (by simp[oR,b.out.1,b.out.2]) (by simp[GJ,b.out.1,b.out.2]))
 have aL:(l !=0)=false:=by simp[d]
 go_wp2_with fail;refine(ag _ A).mono ?_;rintro e aA ⟨rfl,J⟩;have an:=av (oT (Nat.lt_of_succ_lt F.2.2) J am);have n:Hid (ap w aA):=A.trans (J.mono A.size);have q:=av (F.below J);clear J ag A am F;cases bd
 ·have b:Hid (E=5):=by rw[Hid,m.out];simp[GK,d]
  obtain⟨⟨g,h,i,j⟩,⟨f0,f1,f2,f3⟩,x⟩:=q.out;clear r m d p;go_wp2_with fail;exact aE (v:=ax #[aB 0 0 .empty none 0 0,ae 5]) (by simp[results,results205,go_sem,g,h,i,j];rfl) rfl (pU (dy n (by omega) _ _ _ _) (by simp[oR,b.out]) (by simp[GJ,b.out]))
 ·by_cases ar:self<1
  ·have aG:decide (self<1)=true:=by simpa using ar
   have b:Hid (E=1):=by rw[Hid,m.out];simp only[GK,d,cD];rw[if_neg (by omega)]
   obtain⟨⟨g,h,i,j⟩,⟨f0,f1,f2,f3⟩,x⟩:=q.out;clear r m d p;go_wp2_with fail;exact aE (v:=ax #[aB 0 0 .empty none 0 0,ae 1]) (by simp[results,results205,go_sem,g,h,i,j];rfl) rfl (pU (dy n (by omega) _ _ _ _) (by simp[oR,b.out]) (by simp[GJ,b.out]))
  ·have aG:decide (self<1)=false:=by simpa using ar
   by_cases az:99<self
   ·have aH:decide (99<self)=true:=by simpa using az
    have b:Hid (E=1):=by rw[Hid,m.out];simp only[GK,d,cD];rw[if_neg (by omega)]
    obtain⟨⟨g,h,i,j⟩,⟨f0,f1,f2,f3⟩,x⟩:=q.out;clear r m d p;go_wp2_with fail;exact aE (v:=ax #[aB 0 0 .empty none 0 0,ae 1]) (by simp[results,results205,go_sem,g,h,i,j];rfl) rfl (pU (dy n (by omega) _ _ _ _) (by simp[oR,b.out]) (by simp[GJ,b.out]))
   ·have aH:decide (99<self)=false:=by simpa using az
    have B:Hid (E=0):=by rw[Hid,m.out];simp only[GK,d,cD];rw[if_pos (by omega)]
    obtain⟨aP,aQ,aR,aS⟩:=an.out;have aU:w.heap.size<aA.heap.size:=Nat.lt_of_succ_lt q.2.2;clear m d;go_wp2_with fail;refine(r B _ n).mono ?_;rintro e z ⟨y,aO,rfl,k⟩;have K:Hid (ap w z):=n.trans (k.1.mono n.size);have G:=av (q.below k.1);have ao:dG (N+1) y=aB y.1.1 y.1.2.1 y.1.2.2 y.2.1.1 y.2.2.length y.2.1.2:=rfl;rw[ao];clear r ao aP aQ aR aS an;cases aO
    ·have aj:Hid (o=none):=by
       have:=k.2.2.2.1;cases o with
       | none=>rfl
       | some f=>cases this
     obtain⟨⟨g,h,i,j⟩,⟨f0,f1,f2,f3⟩,x⟩:=G.out;clear k p;go_wp2_with fail;exact aE (v:=ax #[aB 0 0 .empty none 0 0,ae 7]) (by simp[results,results205,go_sem,g,h,i,j,x];rfl) rfl (pU ((dy K (by omega) _ _ _ _).alloc (by rw[bK];omega) _) (by simp[oR,aj.out]) (by simp[GJ,oR,aj.out,B.out]))
    ·obtain⟨f,T⟩:∃f,o=some f:=by
       have:=k.2.2.2.1;cases o with
       | none=>cases this
       | some f=>exact⟨f,rfl⟩
     have H:=av T;have al:=av (k.2.2.2.2 f T)
     have O:Hid (∀w1,ap z w1->au 53 #[aB y.1.1 y.1.2.1 y.1.2.2 y.2.1.1 y.2.2.length y.2.1.2] w1 λe w'=>e=aw (ae (bL (N+1) f))/\ap w1 w'):=
      λw1 t=>p B y f w1 H al ((k.2.1.below t).mono t.size)
     obtain⟨s,S⟩:∃s,s=bL (N+1) f:=⟨_,rfl⟩;rw[<-S]at O;have M:=av S;have P:=λ(D:ah)(aJ:ap z D)(aI:s=0) V W X Y=>av (NW (E:=E) B H (M.symm.trans aI) n (kv _ 1) q.2.2 k.1 k.2.1 k.2.2.1 al aJ V W X Y);clear T S p k q n;go_wp2_with fail;refine(O _ (aW _ _)).mono ?_;rintro e D ⟨rfl,R⟩;obtain⟨⟨t0,t1,t2,t3⟩,_⟩:=F8 R;have L:Hid (ap z D):=(aW _ _).trans (R.mono (by simp));have aC:=av (G.below L);have aF:Hid (ap w D):=K.trans (L.mono K.size);obtain⟨⟨g,h,i,j⟩,⟨f0,f1,f2,f3⟩,x⟩:=aC;have aN:¬(w.heap.size+1=z.heap.size):=by have:=G.2.2;omega
     have aT:¬(z.heap.size=w.heap.size+1):=λe=>aN e.symm;clear R O G;by_cases u:s=0
     ·have aM:(s !=0)=false:=by simp[u]
      have aD:=λV W X Y=>P D L u V W X Y;clear P u;go_wp2_with fail;exact aE (v:=ax #[aB y.1.1 y.1.2.1 y.1.2.2 y.2.1.1 y.2.2.length y.2.1.2,ae 0]) (by simp[results,results205,go_sem,g,h,i,j]) rfl (aD _ _ _ _)
     ·have aM:(s !=0)=true:=by simpa using u
      have ak:=av u;clear P u;go_wp2_with fail;exact aE (v:=ax #[aB 0 0 .empty none 0 0,ae 7]) (by simp[results,results205,go_sem,g,h,i,j];rfl) rfl (pU (dy aF (by omega) _ _ _ _) (by have t:=M.out;have C:=ak.out;rw[t]at C;simp[oR,H.out,C]) (by have t:=M.out;have C:=ak.out;rw[t]at C;simp[GJ,oR,H.out,B.out,C]))
theorem Fm(n m:Nat)(x:Tm (n+1))(b:List (Tm m))(a:ay)(c B:Nat)(self:Int)(w:ah)(p:In B w (n+1) x)(k:fV B w m b a)(f:B<=w.heap.size)(r:(aI (n+1) x).length<=2097152)(t:b.length<=9223372036854775807)(s:∀y∈b,(aI m y).length<=2097152):au 205 #[dG (n+1) x,af a b.length c,ae self] w (Bo (m+n) (GK (bL (n+1) x) (gH m b) self) (vl m b self (n+1) x) w):=by
 refine Da (m+n) _ a b.length c self x.1.1 x.1.2.1 x.1.2.2 x.2.1.1 x.2.2.length x.2.1.2 (bL (n+1) x) (gH m b) w ?_ ?_ ?_ ?_
 ·intro e d;exact dX (n+1) x B e (p.below (d.mono f)) (aG f d.size) r
 ·intro e d;exact By m b a c B e (k.below (d.mono f)) t s (aG f d.size)
 ·intro i e d;obtain⟨h,g,j⟩:=C9 i;have q:=(iC g).1;rw[q];exact JL m b self g j (n+1) x a c B e (p.below (d.mono f)) (aZ.2 (bU.1 h).1) (k.below (d.mono f)) (aG f d.size)
 ·intro i y A e z o u;obtain⟨h,g,j⟩:=C9 i;have v:=JK h g z;have l:=dX (m+n+1) y e.heap.size e u (aA _) (by rw[lq _ _ _ _ o];exact v);rw[bP o]at l;exact l
theorem Dd{a:Nat}{x:Tm n}{y:Tm m}{x':Tm u}{b:Tm a}(d:aK n x u x'=true)(k:aK m y a b=true):aK n x m y=aK u x' a b:=by
 cases c:aK u x' a b with
 | true=>exact bW _ _ _ _ _ _ d (bW _ _ _ _ _ _ c (dF _ _ _ _ k))
 | false=>
  cases e2:aK n x m y with
  | false=>rfl
  | true=>
   have e:=bW _ _ _ _ _ _ (dF _ _ _ _ d) (bW _ _ _ _ _ _ e2 k);rw[c]at e;cases e
def pt:Option (List An)->Option (List An)->Prop
 | none,none=>True
 | some b,some c=>aO eJ b c=true
 | _,_=>False
theorem wj{x:An}(a:eJ x y=true):cm x=cm y:=by
 obtain⟨n,x⟩:=x;obtain⟨b,y⟩:=y;cases n with
 | zero=>simp[eJ,aK]at a
 | succ n=>
  cases b with
  | zero=>simp[eJ,aK]at a
  | succ b=>
   simp only[eJ,aK,aT,cU]at a;exact a.1.1.1
theorem vq{c d:Type}{f:c->d->Bool}{a:c}{b:d}(e:f a b=true):(p:List c)->(q:List d)->(i:Nat)->aO f p q=true->aO f (p.set i a) (q.set i b)=true
 | [],[],_,_=>by simp[aO]
 | [],_::_,_,h=>by simp[aO]at h
 | _::_,[],_,h=>by simp[aO]at h
 | x::p,y::q,0,h=>by
  simp only[aO,aT]at h;simp[aO,e,h.2]
 | x::p,y::q,i+1,h=>by
  simp only[aO,aT]at h;simp[aO,h.1,vq e p q i h.2]
theorem Ev{c:List An}{i:Nat}{t h:An}(f:aO eJ b c=true)(j:eJ t h=true):pt (vV b i t) (vV c i h):=by
 have o:=cX _ _ _ f;unfold vV;cases e:b[i]? with
 | none=>
  have a:c[i]?=none:=by
   rw[List.getElem?_eq_none_iff]at e ⊢;omega
  rw[a];trivial
 | some g=>
  obtain⟨n,m⟩:=bj.1 e;have a:c[i]?=some c[i]:=aV (by omega);rw[a];have k:eJ g c[i]=true:=j0 _ _ _ f i _ _ e a;simp only;rw[<-wj k];by_cases d:cm g=6
  ·rw[if_pos d,if_pos d];exact vq j _ _ _ f
  ·rw[if_neg d,if_neg d];have l:eJ g t=eJ c[i] h:=Dd k j;rw[<-l];cases eJ g t
   ·simp[pt]
   ·simpa [pt]using f
theorem vU{n r o s:Type}(f:n->r->List An->Option (List An))(g:o->s->List An->Option (List An))(P:n->o->Bool)(Q:r->s->Bool):(p:List n)->(q:List r)->(a:List o)->(h:List s)->(∀x∈p,∀y∈q,∀x' k b c,P x x'=true->Q y k=true->aO eJ b c=true->pt (f x y b) (g x' k c))->aO P p a=true->aO Q q h=true->∀b c,aO eJ b c=true->pt (jR f p q b) (jR g a h c)
 | [],_,a,_,_,i,_,b,c,l=>by
  cases a with
  | nil=>simpa [jR,pt]using l
  | cons _ _=>simp[aO]at i
 | x::p,[],a,h,_,i,j,b,c,l=>by
  cases h with
  | nil=>cases a<;>simpa [jR,pt]using l
  | cons _ _=>simp[aO]at j
 | x::p,y::q,a,h,hf,i,j,b,c,l=>by
  cases a with
  | nil=>simp[aO]at i
  | cons x' a=>
   cases h with
   | nil=>simp[aO]at j
   | cons k h=>
    simp only[aO,aT]at i j;have e:=hf x (by simp) y (by simp) x' k b c i.1 j.1 l;simp only[jR];cases e1:f x y b with
    | none=>
     rw[e1]at e;cases m:g x' k c with
     | none=>simp[pt]
     | some _=>rw[m]at e;exact e.elim
    | some d=>
     rw[e1]at e;cases m:g x' k c with
     | none=>rw[m]at e;exact e.elim
     | some t=>
      rw[m]at e;simp only[dU];exact vU f g P Q p q a h (λx u y v=>hf x (by simp[u]) y (by simp[v])) i.2 j.2 d t e
theorem nb:(n:Nat)->(p:Tm n)->(m:Nat)->(t:Tm m)->(d:Nat)->(j:Tm d)->(a:Nat)->(k:Tm a)->(b c:List An)->aK n p d j=true->aK m t a k=true->aO eJ b c=true->pt (jc n p m t b) (jc d j a k c)
 | 0,_,_,_,_,_,_,_,_,_,h,_,_=>by simp[aK]at h
 | _+1,_,_,_,0,_,_,_,_,_,h,_,_=>by simp[aK]at h
 | _+1,_,0,_,_+1,_,_,_,_,_,_,h,_=>by simp[aK]at h
 | _+1,_,_+1,_,_+1,_,0,_,_,_,_,h,_=>by simp[aK]at h
 | n+1,p,m+1,t,d+1,j,a+1,k,b,c,hp,ht,hb=>by
  have u:=hp;have l:=ht;simp only[aK,aT,cU]at hp ht;obtain⟨⟨⟨v,w⟩,A⟩,o⟩:=hp;obtain⟨⟨⟨t1,t2⟩,t3⟩,t4⟩:=ht;unfold jc;rw[<-v,<-w,<-t1,<-cX _ _ _ o,<-cX _ _ _ t4];by_cases g:p.1.1=6
  ·rw[if_pos g,if_pos g];exact hb
  ·rw[if_neg g,if_neg g];by_cases f:p.1.1=5
   ·rw[if_pos f,if_pos f];exact Ev hb l
   ·rw[if_neg f,if_neg f];by_cases e:p.1.1=4
    ·rw[if_pos e,if_pos e];by_cases i:t.1.1=4/\p.2.2.length=t.2.2.length
     ·rw[if_pos i,if_pos i];exact vU _ _ (λx y=>aK n x d y) (λx y=>aK m x a y) p.2.2 t.2.2 j.2.2 k.2.2 (λx _ y _ x' z b c q r s=>nb n x m y d x' a z b c q r s) o t4 b c hb
     ·rw[if_neg i,if_neg i];trivial
    ·rw[if_neg e,if_neg e,<-Dd u l];cases aK (n+1) p (m+1) t
     ·simp[pt]
     ·simpa [pt]using hb
theorem Cn{w w':ah}(c:w.grownBy w' (some g)):∀b o,b<w.heap.size->b≠g->w'.cell? ⟨b,o,none⟩=w.cell? ⟨b,o,none⟩:=
 λb o d e=>World.cell?_of_block (a:=⟨b,o,none⟩) (c.block b d (by simpa using e))
theorem si{w w':ah}{row:dd}(a:w.drew.grownBy w' row):w.grownBy w' row:=⟨a.os,a.tape,a.output,a.size,a.block⟩
theorem Hz(p q:Nat)(a d:ay)(pc h:Nat)(g c:Nat)(base:Nat)(w:ah)(_hpc:p<=9223372036854775807)(_hqc:q<=9223372036854775807)(f:((p:Int)==(q:Int))=false):au 236 #[af (some ⟨g,0,none⟩) 4 c,af a p pc,af d q h] w (fi base g c none w):=by
 have i:((p:Int) !=(q:Int))=true:=by simpa using f
 go_enter func236,ntmps236;go_wp2_with fail
 go_ret
 exact⟨rfl,gT _ _,λb e=>by cases e⟩
theorem vT(a e:ay)(pc i:Nat)(g c:Nat)(base:Nat)(b:List An)(w:ah)(H:nS base g c b w):au 236 #[af (some ⟨g,0,none⟩) 4 c,af a 0 pc,af e 0 i] w (fi base g c (some b) w):=by
 have d:=av H;clear H;go_enter func236,ntmps236;go_wp2_with fail
 go_loop [16] (λh=>h=ae 0) (λ_=>0)
 case atStart=>rfl
 case round=>
  obtain rfl:=hrel;go_wp2_with fail
  go_ret
  exact⟨rfl,gT _ _,λj f=>by obtain rfl:=aJ f;exact d⟩
theorem Hy(n m:Nat)(ih:OJ n)(p:List (Tm n))(q:List (Tm m))(len:Nat)(ab:Hid (p.length=len))(ay:Hid (q.length=len))(K po d j pc az:Nat)(b:List An)(base g c B:Nat)(w:ah)(aF:len<=9223372036854775807)(aw:K<B)(ax:d<B)(aa:∀(i:Nat)(y:Tm n),p[i]?=some y->eh w K (po+i*4) n y/\In B w n y)(ad:∀(i:Nat)(y:Tm m),q[i]?=some y->eh w d (j+i*4) m y/\In B w m y)(ai:∀y∈p,aM ⟨n,y⟩)(aj:∀y∈q,aM ⟨m,y⟩)(V:Hid (DQ B w b))(U:B<=base)(H:Hid (nS base g c b w)):au 236 #[af (some ⟨g,0,none⟩) 4 c,af (some ⟨K,po,none⟩) len pc,af (some ⟨d,j,none⟩) len az] w (fi base g c (jR (λx y b=>jc n x m y b) p q b) w):=by
 have W:B<=g:=aG U H.out.lt.1;have X:g<w.heap.size:=H.out.lt.2;go_enter func236,ntmps236;go_wp2_with fail;go_loopw [16] (λi wr=>∃k:Nat,k<=len/\i=ae k/\Hid (w.grownBy wr (some g)/\∃a,nS base g c a wr/\DQ B wr a/\jR (λx y b=>jc n x m y b) (p.drop k) (q.drop k) a=jR (λx y b=>jc n x m y b) p q b)) (λi _=>len-(intOf i).toNat)
 case atStart=>exact⟨0,by omega,rfl,gT _ _,b,H.out,V.out,rfl⟩
 case round=>
  obtain⟨k,aC,rfl,v⟩:=hrel;by_cases Z:k<len
  ·obtain⟨x,E⟩:∃x,p[k]?=some x:=⟨p[k]'(by rw[ab.out];exact Z),aV _⟩;obtain⟨y,I⟩:∃y,q[k]?=some y:=⟨q[k]'(by rw[ay.out];exact Z),aV _⟩;obtain⟨l,a,L,u,t⟩:Hid (w.grownBy wr (some g))/\∃a,Hid (nS base g c a wr)/\Hid (DQ B wr a)/\Hid (jR (λx y b=>jc n x m y b) (p.drop k) (q.drop k) a=jR (λx y b=>jc n x m y b) p q b):=v.out;clear v;obtain⟨F,G⟩:=aa k x E;obtain⟨J,r⟩:=ad k y I;have z:=av (Ib (λx y b=>jc n x m y b) p q k x y E I a);have T:=av (ai x (aU E));have N:=av (aj y (aU I));have o:=oZ l.out W X;replace F:=F.below o aw;replace J:=J.below o ax;replace G:=G.below o;replace r:=r.below o;have aA:g<wr.heap.size:=bi X l.out.size;have D:B<=wr.heap.size:=by omega
   clear aa ad E I ai aj V H o;cases n with
   | zero=>exact F.elim
   | succ n=>
   cases m with
   | zero=>exact J.elim
   | succ m=>
   obtain⟨aO,aP,aQ,aR⟩:=F;obtain⟨y0,y1,y2,aS⟩:=J
   have Q:Hid (∀(h:ah),ap wr h->au 227 #[af (some ⟨g,0,none⟩) 4 c,aB x.1.1 x.1.2.1 x.1.2.2 x.2.1.1 x.2.2.length x.2.1.2,aB y.1.1 y.1.2.1 y.1.2.2 y.2.1.1 y.2.2.length y.2.1.2] h (fi base g c (jc (n+1) x (m+1) y a) h)):=
    λh C=>ih x (m+1) y a base g c B h (G.below (C.mono D)) (r.below (C.mono D)) T.out N.out (u.out.below (C.mono D)) U (L.out.below C)
   have M:Hid (∀s e,jc (n+1) x (m+1) y a=s->s=some e->DQ B wr e):=λs e ao aq=>u.out.fit r N.out (ao.trans aq);clear ih G r T N u;replace z:Hid (jR (λx y b=>jc (n+1) x (m+1) y b) (p.drop k) (q.drop k) a=(jc (n+1) x (m+1) y a).bind (jR (λx y b=>jc (n+1) x (m+1) y b) (p.drop (k+1)) (q.drop (k+1)))):=z;generalize jc (n+1) x (m+1) y a=s at*;generalize x.2.2.length=ak at*;generalize y.2.2.length=yl at*;have aD:(0:Int)<=(k:Int):=by omega
   have aE:(k:Int)<(len:Int):=by omega
   have aH:K<wr.heap.size:=by omega
   have aK:d<wr.heap.size:=by omega
   have aL:d<wr.heap.size+1:=by omega
   have aI:d≠g:=by omega
   have aN:wr.heap.size≠g:=by omega
   have al:=av (Q.out (wr.alloc (.cells #[ae x.1.1,ae x.1.2.1,ag x.1.2.2,af x.2.1.1 ak x.2.1.2] 54)).drew ((aW _ _).drew));clear Q;go_wp2_with fail
   go_region_held3 (λf=>f.cell? ⟨wr.heap.size,0,none⟩=some (ae x.1.1)/\f.cell? ⟨wr.heap.size,1,none⟩=some (ae x.1.2.1)/\f.cell? ⟨wr.heap.size,2,none⟩=some (ag x.1.2.2)/\f.cell? ⟨wr.heap.size,3,none⟩=some (af x.2.1.1 ak x.2.1.2)
       /\f.cell? ⟨d,j+k*4,none⟩=some (ae y.1.1)/\f.cell? ⟨d,j+k*4+1,none⟩=some (ae y.1.2.1)/\f.cell? ⟨d,j+k*4+2,none⟩=some (ag y.1.2.2)/\f.cell? ⟨d,j+k*4+3,none⟩=some (af y.2.1.1 yl y.2.1.2))
    (go_keep) ((go_at_call 227;refine al.out.mono ?_;rintro A h ⟨rfl,O,Y⟩;have ar:=Cn (si O);have R:=av (si O);have am:=av Y;clear O Y))
   have S:Hid (w.grownBy h (some g)):=my l.out (my (dC wr _ _) R.out);clear ar;cases s with
   | some e=>
    have an:Hid (DQ B h e):=(M.out _ e rfl rfl).below (((aW _ _).mono D).trans (oZ R.out W (by simp;omega)));clear M;simp only[lJ];go_wp2_with fail;go_roundw
    case rel=>exact⟨k+1,by omega,by go_num,S.out,e,am.out e rfl,an.out,by rw[<-t.out,z.out];rfl⟩
    case measure=>simp[intOf];omega
   | none=>
    clear M;simp only[nP];go_wp2_with fail
    go_ret
    have P:jR (λx y b=>jc (n+1) x (m+1) y b) p q b=none:=by rw[<-t.out,z.out];rfl
    rw[P];exact⟨rfl,S.out,λa A=>by cases A⟩
  ·obtain⟨l,a,L,u,t⟩:Hid (w.grownBy wr (some g))/\∃a,Hid (nS base g c a wr)/\Hid (DQ B wr a)/\Hid (jR (λx y b=>jc n x m y b) (p.drop k) (q.drop k) a=jR (λx y b=>jc n x m y b) p q b):=v.out;clear v;go_wp2_with fail
   go_ret
   have P:jR (λx y b=>jc n x m y b) p q b=some a:=by rw[<-t.out,ko (by rw[ab.out];omega)];rfl
   rw[P];exact⟨rfl,l.out,λe A=>by obtain rfl:=aJ A;exact L.out⟩
theorem Eu(n m:Nat)(ih:OJ n)(p:List (Tm n))(q:List (Tm m))(a e:ay)(pc j:Nat)(b:List An)(base g c B:Nat)(w:ah)(f:p=[]\/∃b o,a=some ⟨b,o,none⟩/\b<B/\∀(i:Nat)(y:Tm n),p[i]?=some y->eh w b (o+i*4) n y/\In B w n y)(h:q=[]\/∃b o,e=some ⟨b,o,none⟩/\b<B/\∀(i:Nat)(y:Tm m),q[i]?=some y->eh w b (o+i*4) m y/\In B w m y)(u:p.length<=9223372036854775807)(A:q.length<=9223372036854775807)(C:∀y∈p,aM ⟨n,y⟩)(D:∀y∈q,aM ⟨m,y⟩)(r:DQ B w b)(l:B<=base)(H:nS base g c b w):au 236 #[af (some ⟨g,0,none⟩) 4 c,af a p.length pc,af e q.length j] w (fi base g c (if p.length=q.length then jR (λx y b=>jc n x m y b) p q b else none) w):=by
 by_cases d:p.length=q.length
 ·rw[if_pos d];rcases f with f|⟨E,po,rfl,t,f⟩
  ·subst f;have v:q=[]:=b9 d.symm;subst v;exact vT a e pc j g c base b w H
  ·rcases h with h|⟨F,G,rfl,z,h⟩
   ·subst h;have s:p=[]:=b9 d;subst s;exact vT _ e pc j g c base b w H
   ·have k:=Hy n m ih p q p.length rfl d.symm E po F G pc j b base g c B w (by omega) t z f h C D r l H;rw[<-d];exact k
 ·rw[if_neg d];exact Hz p.length q.length a e pc j g c base w u A (by simp;omega)
theorem fi.from{o:Option (List An)}{w w1:ah}(a:w.grownBy w1 (some g)){e:Ending}{w2:ah}(k:fi base g c o w1 e w2):fi base g c o w e w2:=
 ⟨k.1,my a k.2.1,k.2.2⟩
theorem Ie(k D j E:Int)(s C:aq)(a t:ay)(l u pc v:Nat)(base g c:Nat)(b:List An)(o p:Option (List An))(sm:Bool)(w:ah)(H:Hid (nS base g c b w))(q:Hid (k=5->∀w1,ap w w1->au 235 #[af (some ⟨g,0,none⟩) 4 c,ae D,aB j E C t u v] w1 (fi base g c o w1)))(G:Hid (∀w1,ap w w1->au 236 #[af (some ⟨g,0,none⟩) 4 c,af a l pc,af t u v] w1 (fi base g c p w1)))(M:Hid (∀w1,ap w w1->au 237 #[aB k D s a l pc,aB j E C t u v] w1 λe w'=>∃r,e=aw (ae r)/\Hid ((r==0)=sm)/\ap w1 w')):au 227 #[af (some ⟨g,0,none⟩) 4 c,aB k D s a l pc,aB j E C t u v] w (fi base g c (if k=6 then some b else if k=5 then o else if k=4 then (if j=4 then p else none)else if sm then some b else none) w):=by
 have K:∀o p,ap w ((w.alloc o).alloc p):=λo p=>(aW _ _).alloc (by simp) _;have f:=av K;clear K;by_cases i:k=6
 ·rw[if_pos i];subst i;go_enter func227,ntmps227;go_wp2_with fail
  go_ret
  exact⟨rfl,dm (f _ _) _,λA e=>by obtain rfl:=aJ e;exact H.below (f _ _)⟩
 rw[if_neg i];have R:(k==6)=false:=by simpa using i
 by_cases d:k=5
 ·rw[if_pos d];have N:=av (q d);have Q:(k==5)=true:=by simpa using d
  clear d i q;go_enter func227,ntmps227;go_wp2_with fail;refine(N _ (f _ _)).mono ?_;rintro e w1 n;have x:=av (fi.from (dm (f _ _) _) n);obtain⟨rfl,_,_⟩:=n;go_wp2_with fail
  go_ret
  exact x
 rw[if_neg d];have Q:(k==5)=false:=by simpa using d
 by_cases h:k=4
 ·rw[if_pos h];have O:(k==4)=true:=by simpa using h
  clear d i q;by_cases m:j=4
  ·rw[if_pos m];have P:(j==4)=true:=by simpa using m
   clear h m;go_enter func227,ntmps227;go_wp2_with fail;refine(G _ (f _ _)).mono ?_;rintro e w1 n;have x:=av (fi.from (dm (f _ _) _) n);obtain⟨rfl,_,_⟩:=n;go_wp2_with fail
   all_goals go_ret
   all_goals exact x
  ·rw[if_neg m];have P:(j==4)=false:=by simpa using m
   clear h m;go_enter func227,ntmps227;go_wp2_with fail
   go_ret
   exact⟨rfl,dm (f _ _) _,λA e=>by cases e⟩
 rw[if_neg h];have O:(k==4)=false:=by simpa using h
 clear h d i q G;obtain⟨L,B⟩:∃L,L=if sm then some b else none:=⟨_,rfl⟩
 rw[<-B];have F:=av B;clear B;go_enter func227,ntmps227;go_wp2_with fail;refine(M _ (f _ _)).mono ?_;rintro e w1 ⟨r,rfl,I,J⟩;have z:Hid (ap w w1):=(f _ _).trans (J.mono (f _ _).size);have y:=av F.out;rw[Hid,<-I.out]at y;clear J I F;cases h0:r==0
 ·go_wp2_with fail
  go_ret
  have d:=y;rw[h0]at d;simp only[p7,if_false]at d;subst d;exact⟨rfl,dm z _,λA e=>by cases e⟩
 ·go_wp2_with fail
  go_ret
  have d:=y;rw[h0]at d;simp only[cD]at d;subst d;exact⟨rfl,dm z _,λA e=>by obtain rfl:=aJ e;exact H.below z⟩
theorem O9(n:Nat)(p:Tm (n+1))(m:Nat)(t:Tm (m+1))(b:List An):jc (n+1) p (m+1) t b=if p.1.1=6 then some b else if p.1.1=5 then vV b p.1.2.1.toNat ⟨m+1,t⟩else if p.1.1=4 then (if t.1.1=4 then (if p.2.2.length=t.2.2.length then jR (λx y b=>jc n x m y b) p.2.2 t.2.2 b else none)else none)else if aK (n+1) p (m+1) t then some b else none:=by
 simp only[jc];by_cases a:t.1.1=4<;>by_cases c:p.2.2.length=t.2.2.length<;>simp[a,c]
theorem PC(n:Nat)(p:Tm (n+1))(d:aM ⟨n+1,p⟩)(e:p.1.1=5):∃k:Nat,k<4/\p.1.2.1=k:=by
 have a:=d (bR n p) (by simp[aI,bR]);have b:(bR n p).1.1=5:=e;have c:(bR n p).1.2.1=p.1.2.1:=rfl;simp[cN,b,qX]at a;rw[c]at a;exact⟨p.1.2.1.toNat,by omega,by omega⟩
theorem KO(n:Nat):OJ n:=by
 induction n with
 | zero=>intro e j t b s u c l y d;exact d.elim
 | succ n ih=>
  intro e j t b s u c l y d v w x i z r;cases j with
  | zero=>exact v.elim
  | succ j=>
  have f:l<=y.heap.size:=by have:=r.lt;omega
  have C:=d;have H:=v;obtain⟨⟨_,_,_,I,D⟩,E⟩:=C;obtain⟨⟨_,_,_,J,F⟩,G⟩:=H;unfold maxLen at D F;rw[O9];refine Ie e.1.1 e.1.2.1 t.1.1 t.1.2.1 e.1.2.2 t.1.2.2 e.2.1.1 t.2.1.1 e.2.2.length t.2.2.length e.2.1.2 t.2.1.2 s u c b _ _ _ y r ?_ ?_ ?_
  ·intro A q a;obtain⟨k,B,m⟩:=PC n e w A;rw[m];exact KS b s u c l q k B j t (i.below (a.mono f)) (v.below (a.mono f)) x z (r.below a)
  ·intro q a;refine Eu n j ih e.2.2 t.2.2 e.2.1.1 t.2.1.1 e.2.1.2 t.2.1.2 b s u c l q ?_ ?_ (by omega) (by omega) (λh g=>bu n e h w g) (λh g=>bu j t h x g) (i.below (a.mono f)) z (r.below a)
   ·rcases E with d|⟨b,o,m,i,d⟩
    ·exact ak d
    ·exact am ⟨b,o,m,i,λp h g=>⟨(d p h g).1.below (a.mono f) i,(d p h g).2.below (a.mono f)⟩⟩
   ·rcases G with d|⟨b,o,m,i,d⟩
    ·exact ak d
    ·exact am ⟨b,o,m,i,λp h g=>⟨(d p h g).1.below (a.mono f) i,(d p h g).2.below (a.mono f)⟩⟩
  ·intro q a;exact CU ⟨n+1,e⟩ ⟨j+1,t⟩ l q (d.below (a.mono f)) (v.below (a.mono f)) (aG f a.size) w x
def oP(n:Nat)(q:List (Tm n)):List An:=q.map λx=>⟨n,x⟩
theorem nU(n:Nat)(q:List (Tm n)):(oP n q).length=q.length:=by simp[oP]
theorem EC{q:List (Tm n)}{w:ah}{po:Nat}(p:∀(i:Nat)(y:Tm n),q[i]?=some y->eh w u (po+i*4) n y):∀j b,(gt (oP n q))[j]?=some b->w.cell? ((⟨u,po,none⟩:Addr).add j)=some b:=by
 intro j b a;have d:=lP (oP n q);have r:j<q.length*4:=by
  rw[nU]at d;rw[<-d];exact(bj.1 a).1
 obtain⟨k,i,o,rfl⟩:∃k i,i<4/\j=k*4+i:=⟨j / 4,j % 4,Nat.mod_lt _ (by decide),by omega⟩;obtain⟨y,e⟩:∃y,q[k]?=some y:=⟨q[k]'(by omega),aV _⟩;have f:(gt (oP n q))[k*4+i]?=(wL (um ⟨n,y⟩))[i]? :=jk _ k (um ⟨n,y⟩) (by simp[oP,e]) i o;rw[f]at a;have c:=p k y e;cases n with
 | zero=>exact c.elim
 | succ n=>
 obtain⟨g,h,l,m⟩:=c;rw[eT,<-Nat.add_assoc];have:i=0\/i=1\/i=2\/i=3:=by omega
 rcases this with rfl|rfl|rfl|rfl
 all_goals simp[wL,um,gM,bR]at a;subst a
 ·exact g
 ·exact h
 ·exact l
 ·exact m
theorem D7(n:Nat)(q:List (Tm n))(len l po pc:Nat)(w:ah)(o:Hid (q.length=len))(E:0<len)(F:len<=1048576)(x:Hid (∀w1,ap w w1->∀j t,(gt (oP n q))[j]?=some t->w1.cell? ((⟨l,po,none⟩:Addr).add j)=some t)):au 226 #[af (some ⟨l,po,none⟩) len pc] w λe w'=>∃g c,e=aw (af (some ⟨g,0,none⟩) len c)/\Hid (ap w w'/\nS w.heap.size g c (oP n q) w'):=by
 obtain⟨B,hit,p,r,s⟩:=bT gN;have a:=av (⟨hit,p,r,s⟩:_/\_/\_/\_);clear hit p r s;have H:∀(w:ah)(b:ay)(n c i f:Nat),(binOp .eql 52 (af b n c) (af none i f)).run Tryz.prog w=.ok (.bool b.isNone) w:=λw b n c i f=>Lib.run_eql_slice_nil w _ _ b n c i f underlying52;go_enter func226,ntmps226;go_wp2_with (at_builtin;refine wpList_append_own _ rfl _ _ 52 rfl w.heap.size 54 B _ 4 56 underlying52 a.1 a.2.1 a.2.2.1 a.2.2.2 rfl (by decide) _ _ _ rfl (World.ownsRow_made w #[] 0 (aA _) (aN _) (by simp)) ⟨l,po,none⟩ len pc (gt (oP n q)) rfl ?qc1 ?qc2 ?qc3 ?qc4 ?qc5 ?qc6 ?_)
 case qc1=>rw[lP,nU,o.out]
 case qc2=>exact x _ (aW _ _)
 case qc3=>exact Bt _
 case qc4=>unfold maxLen;omega
 case qc5=>omega
 case qc6=>simp
 intro C w1 h m A;have u:Hid (∃g c,C=af (some ⟨g,0,none⟩) len c/\ap w w1/\nS w.heap.size g c (oP n q) w1):=by
  have y:ap w w1:=Below.grown (aW _ _) m (by simp) (by intro k z;simp[Value.ownBlock]at z;omega);have d:=h;obtain⟨_,d⟩:=d;rcases d with⟨_,d⟩|⟨g,cap,D,rfl,G,_⟩
  ·omega
  ·refine⟨g,cap,rfl,y,?_⟩;unfold nS;rw[nU,o.out];exact h
 clear h m A;obtain⟨g,c,rfl,v⟩:=u;go_wp2_with fail
 go_ret
 exact⟨g,c,rfl,v⟩
def uH(a b:Int)(cl bd:Bool):Int:=if a=0 then if b=0 then if cl && bd then 0 else 5 else b else a
def zG(a:Int)(o:Option (List An))(w:ah)(e:Ending)(w':ah):Prop:=
 ∃f len c d,e=aw (ax #[af f len c,.bool d,ae a])/\Hid (ap w w'/\
  ((¬(a=0/\o.isSome=true)->len=0/\d=false)/\∀b,a=0->o=some b->d=true/\len=4/\b.length=4/\∃g l,w.heap.size<=g.heap.size/\ii (nQ b) (DC b) g w' f c l))
def OF(w:ah)(v0 v1 v2 v3 a b c d:az)(w':ah):Prop:=
 ap w w'/\w.heap.size+2<=w'.heap.size/\
 (w'.cell? ⟨w.heap.size,0,none⟩=some v0/\w'.cell? ⟨w.heap.size,1,none⟩=some v1/\w'.cell? ⟨w.heap.size,2,none⟩=some v2/\w'.cell? ⟨w.heap.size,3,none⟩=some v3)/\
 (w'.cell? ⟨w.heap.size+1,0,none⟩=some a/\w'.cell? ⟨w.heap.size+1,1,none⟩=some b/\w'.cell? ⟨w.heap.size+1,2,none⟩=some c/\w'.cell? ⟨w.heap.size+1,3,none⟩=some d)
theorem OF.new(w:ah)(v0 v1 v2 v3 a b c d:az)(t e:TypeId):OF w v0 v1 v2 v3 a b c d ((w.alloc (.cells #[v0,v1,v2,v3] t)).alloc (.cells #[a,b,c,d] e)):=
 ⟨(aW _ _).alloc (by simp) _,by simp,⟨by simp[go_sem],by simp[go_sem],by simp[go_sem],by simp[go_sem]⟩,by simp[go_sem],by simp[go_sem],by simp[go_sem],by simp[go_sem]⟩
theorem OF.next{w:ah}{w1 w2:ah}(a:OF w v0 v1 v2 v3 l A C F w1)(b:ap w1 w2):OF w v0 v1 v2 v3 l A C F w2:=
 ⟨a.1.trans (b.mono a.1.size),aG a.2.1 b.size,oT (by have:=a.2.1;omega) b a.2.2.1,oT (by have:=a.2.1;omega) b a.2.2.2⟩
theorem EQ(w:ah)(k G z D:Int)(s C:aq)(a n:ay)(l pc A B:Nat)(W:ay)(Y X:Nat)(i j:Int)(cl bd:Bool)(o:Option (List An))(T:List An)(ao:Hid (∀w1,ap w w1->au 53 #[aB k G s a l pc] w1 λe w'=>e=aw (ae i)/\ap w1 w'))(ar:Hid (∀w1,ap w w1->au 53 #[aB z D C n A B] w1 λe w'=>e=aw (ae j)/\ap w1 w'))(al:Hid (∀w1,ap w w1->au 132 #[aB z D C n A B] w1 λe w'=>e=aw (.bool cl)/\ap w1 w'))(ai:Hid (∀w1,ap w w1->au 225 #[af W Y X] w1 λe w'=>e=aw (.bool bd)/\ap w1 w'))(am:Hid (bd=true->∀w1,ap w w1->au 226 #[af W Y X] w1 λe w'=>∃g c,e=aw (af (some ⟨g,0,none⟩) 4 c)/\Hid (ap w1 w'/\nS w1.heap.size g c T w')))(S:Hid (uH i j cl bd=0->∀w1 base g c,ap w w1->w.heap.size<=base->nS base g c T w1->au 227 #[af (some ⟨g,0,none⟩) 4 c,aB k G s a l pc,aB z D C n A B] w1 (fi base g c o w1)))(R:Hid (uH i j cl bd=0->∀w1 base g c b,o=some b->ap w w1->nS base g c b w1->b.length=4/\au 133 #[af (some ⟨g,0,none⟩) 4 c] w1 λe w'=>∃n aD l,e=aw (af n 4 aD)/\Hid (ii (nQ b) (DC b) w1 w' n aD l))):au 202 #[aB k G s a l pc,aB z D C n A B,af W Y X] w (zG (uH i j cl bd) o w):=by
 obtain⟨f,V⟩:∃f,f=uH i j cl bd:=⟨_,rfl⟩;rw[<-V]at S R ⊢;have q:=av V;clear V;go_enter func202,ntmps202;go_wp2_with fail;refine(ao _ (OF.new w _ _ _ _ _ _ _ _ _ _).1).mono ?_;rintro e w1 ⟨rfl,aH⟩;have t:=av ((OF.new w (ae k) (ae G) (ag s) (af a l pc) (ae z) (ae D) (ag C) (af n A B) 54 54).next aH);clear aH ao;by_cases m:i=0
 case neg=>
  have aP:(i !=0)=true:=by simpa using m
  have d:Hid (f=i/\¬f=0):=by have:=q.out;unfold uH at this;rw[if_neg m]at this;exact⟨this,by rw[this];exact m⟩
  clear m q;go_wp2_with fail;exact aE (v:=ax #[af none 0 0,.bool false,ae i]) (by simp[results,results202,go_sem]) rfl ⟨none,0,0,false,by rw[d.out.1],t.1,λ_=>⟨rfl,rfl⟩,λb h=>absurd h d.2⟩
 have aP:(i !=0)=false:=by simp[m]
 obtain⟨⟨L,M,N,O⟩,H,I,J,K⟩:=t.out.2.2;go_wp2_with fail;refine(ar _ t.1).mono ?_;rintro e aU ⟨rfl,aI⟩;have u:=av (t.next aI);clear aI ar t L M N O H I J K;by_cases p:j=0
 case neg=>
  have aQ:(j !=0)=true:=by simpa using p
  have d:Hid (f=j/\¬f=0):=by have:=q.out;unfold uH at this;rw[if_pos m,if_neg p]at this;exact⟨this,by rw[this];exact p⟩
  clear p m q;go_wp2_with fail;exact aE (v:=ax #[af none 0 0,.bool false,ae j]) (by simp[results,results202,go_sem]) rfl ⟨none,0,0,false,by rw[d.out.1],u.1,λ_=>⟨rfl,rfl⟩,λb h=>absurd h d.2⟩
 have aQ:(j !=0)=false:=by simp[p]
 have r:Hid (f=if cl && bd then 0 else 5):=by have:=q.out;unfold uH at this;rw[if_pos m,if_pos p]at this;exact this
 clear p m q;obtain⟨⟨L,M,N,O⟩,H,I,J,K⟩:=u.out.2.2;go_wp2_with fail;refine(al _ u.1).mono ?_;rintro e aV ⟨rfl,aK⟩;have E:=av (u.next aK);clear aK al u L M N O H I J K;cases cl with
 | false=>
  have d:Hid (f=5/\¬f=0):=by have:=r.out;simp at this;exact⟨this,by rw[this];decide⟩
  clear r;go_wp2_with fail;exact aE (v:=ax #[af none 0 0,.bool false,ae 5]) (by simp[results,results202,go_sem]) rfl ⟨none,0,0,false,by rw[d.out.1],E.1,λ_=>⟨rfl,rfl⟩,λb h=>absurd h d.2⟩
 | true=>
 go_wp2_with fail;refine(ai _ E.1).mono ?_;rintro e Z ⟨rfl,aL⟩;have x:=av (E.next aL);clear aL ai E;cases bd with
 | false=>
  have d:Hid (f=5/\¬f=0):=by have:=r.out;simp at this;exact⟨this,by rw[this];decide⟩
  clear r;go_wp2_with fail;exact aE (v:=ax #[af none 0 0,.bool false,ae 5]) (by simp[results,results202,go_sem]) rfl ⟨none,0,0,false,by rw[d.out.1],x.1,λ_=>⟨rfl,rfl⟩,λb h=>absurd h d.2⟩
 | true=>
 have d:Hid (f=0):=by have:=r.out;simp at this;exact this
 have az:=av (S d);have aj:=av (R d);have an:=av (am rfl);clear r S R am;go_wp2_with fail;refine(an _ x.1).mono ?_;rintro e aM ⟨g,c,rfl,Q⟩;have P:=av (x.next Q.1);have F:Hid (nS Z.heap.size g c T aM):=Q.2;have aA:Hid (w.heap.size<=Z.heap.size):=x.1.size;obtain⟨⟨L,M,N,O⟩,H,I,J,K⟩:=P.out.2.2;clear x Q an;go_wp2_with fail;refine(az aM Z.heap.size g c P.1 aA F).mono ?_;rintro e aa U;have y:Hid (ap w aa):=P.1.trans (oZ U.2.1 (aG aA F.lt.1) F.lt.2);have ab:=av U.2.2;obtain⟨rfl,_,_⟩:=U;clear F az;cases o with
 | none=>
  simp only[nP];go_wp2_with fail;exact aE (v:=ax #[af none 0 0,.bool false,ae 0]) (by simp[results,results202,go_sem]) rfl ⟨none,0,0,false,by rw[d.out],y,λ_=>⟨rfl,rfl⟩,λb _ h=>by cases h⟩
 | some b=>
  simp only[lJ];have aO:=av (ab b rfl);have ak:=av (aj aa _ g c b rfl y aO);clear ab aj;go_wp2_with fail;refine ak.2.mono ?_;rintro e aS ⟨aC,aF,aR,rfl,ad⟩;have aN:Hid (ap w aS):=y.trans (ad.1.mono y.size);go_wp2_with fail;exact aE (v:=ax #[af aC 4 aF,.bool true,ae 0]) (by simp[results,results202,go_sem]) rfl ⟨aC,4,aF,true,by rw[d.out],aN,λh=>absurd ⟨d,rfl⟩ h,λaT _ e=>by obtain rfl:=aJ e;exact⟨rfl,rfl,ak.1,aa,aR,y.size,ad⟩⟩
theorem yn{e:Int}{cl:Bool}(a:uH x e cl bd=0):x=0/\e=0/\cl=true/\bd=true:=by
 unfold uH at a;split at a
 ·split at a
  ·split at a
   ·rename_i b c d;simp at d;exact⟨b,c,d.1,d.2⟩
   ·cases a
  ·rename_i b c;exact absurd a c
 ·rename_i b;exact absurd a b
theorem BC{q:List (Tm n)}(a:gH n q=true):q.length=4:=by
 unfold gH at a;simp at a;exact a.1
theorem Hd{q:List (Tm n)}(a:gH n q=true):∀y∈oP n q,aM y:=by
 intro y c;simp only[oP,cg]at c;obtain⟨d,e,rfl⟩:=c;unfold gH at a;simp only[aT,cZ]at a;have b:=a.2 d e;unfold CR at b;simp only[aT,cU]at b;exact mW n d b.1
theorem Ny{w:ah}{q:List (Tm n)}(c:fV B w n q a):∀y∈oP n q,GY B w y:=by
 intro y e;simp only[oP,cg]at e;obtain⟨h,d,rfl⟩:=e;rcases c with c|⟨b,o,_,_,c⟩
 ·rw[c]at d;cases d
 ·obtain⟨g,f⟩:=dj d;exact(c g h f).2
theorem Cy{w:ah}{q:List (Tm n)}(d:fV B w n q a)(k:gH n q=true):DQ B w (oP n q):=
 ⟨by rw[nU];exact BC k,λc b=>⟨Ny d c b,Hd k c b⟩⟩
theorem yA(n m o:Nat)(p:Tm n)(t:Tm m)(q:List (Tm o))(a:ay)(c B:Nat)(w:ah)(A:In B w n p)(j:In B w m t)(g:fV B w o q a)(e:B<=w.heap.size)(I:(aI n p).length<=2097152)(K:(aI m t).length<=2097152)(J:∀y∈q,(aI o y).length<=2097152)(R:q.length<=9223372036854775807):au 202 #[dG n p,dG m t,af a q.length c] w (zG (uH (bL n p) (bL m t) (kR m t) (gH o q)) (jc n p m t (oP o q)) w):=by
 cases n with
 | zero=>exact A.elim
 | succ n=>
 cases m with
 | zero=>exact j.elim
 | succ m=>
 refine EQ w p.1.1 p.1.2.1 t.1.1 t.1.2.1 p.1.2.2 t.1.2.2 p.2.1.1 t.2.1.1 p.2.2.length p.2.1.2 t.2.2.length t.2.1.2 a q.length c _ _ _ _ _ (oP o q) ?_ ?_ ?_ ?_ ?_ ?_ ?_
 ·exact λf d=>dX (n+1) p B f (A.below (d.mono e)) (aG e d.size) I
 ·exact λf d=>dX (m+1) t B f (j.below (d.mono e)) (aG e d.size) K
 ·intro f d;rw[<-fR];exact jb (m+1) t B f (j.below (d.mono e)) (aG e d.size)
 ·exact λf d=>By o q a c B f (g.below (d.mono e)) R J (aG e d.size)
 ·intro M f d;have k:=BC M;rcases g with g|⟨T,po,rfl,F,g⟩
  ·rw[g]at k;simp at k
  ·have l:=D7 o q 4 T po c f k (by decide) (by decide) (λV H=>EC λS y h=>((g S y h).1.below (d.mono e) F).below (H.mono (aG e d.size)) F);rw[k];exact l
 ·intro x f C v r d L z;obtain⟨D,s,G,u⟩:=yn x;exact KO (n+1) p (m+1) t (oP o q) C v r B f (A.below (d.mono e)) (j.below (d.mono e)) (mW _ _ D) (mW _ _ s) ((Cy g u).below (d.mono e)) (aG e L) z
 ·intro x f C v r b N d z;obtain⟨D,s,G,u⟩:=yn x;have i:=((Cy g u).fit j (mW _ _ s) N).below (d.mono e);have P:=Mp z (λy h=>(i.2 y h).1) (aG e d.size);have Q:(DC b).length=4:=by simp[DC,i.1]
  have l:=t8 (nQ b) (iD _) (DC b) (some ⟨v,0,none⟩) r f.heap.size f P (by omega) (JJ λy h=>⟨(i.2 y h).2,λE=>by
   have O:=(i.2 y h).1;obtain⟨U,W⟩:=y;simp only at E;subst E
   exact O.elim⟩) (aA _)
  rw[Q]at l;exact⟨i.1,l⟩
theorem zU{x:Tm (n+1)}(a:aY (n+1) x=true):x.1.1≠5/\x.1.1≠6/\∀y∈x.2.2,aY n y=true:=by
 simp only[aY,aT,p8,cZ]at a;exact⟨by simpa using a.1.1,by simpa using a.1.2,a.2⟩
def DU(D:Nat)(l:List (Tm D))(d:List An):Prop:=∀(i:Nat)(a:An),d[i]?=some a->∃y,l[i]?=some y/\aK D y a.1 a.2=true/\aM ⟨D,y⟩
theorem vb{c:Type}(f:c->Int)(b:∀x,0<=f x):(p:List c)->(y:c)->y∈p->f y<=(p.map f).sum/\0<=(p.map f).sum
 | [],y,a=>by cases a
 | x::p,y,a=>by
  have g:=b x;have e:0<=(p.map f).sum:=by
   cases p with
   | nil=>simp
   | cons d p=>exact(vb f b (d::p) d (by simp)).2
  simp only[bB,dk];rcases cr.1 a with rfl|a
  ·omega
  ·have:=vb f b p y a;omega
theorem Gl{a:Type}(f:a->Int):(p:List a)->(i:Int)->i<=p.foldl (λm y=>max m (f y)) i
 | [],_=>km _
 | x::p,i=>by
  simp only[gh];have:=Gl f p (max i (f x));omega
theorem CG{b:Type}(f:b->Int):(p:List b)->(i:Int)->(y:b)->y∈p->f y<=p.foldl (λm y=>max m (f y)) i
 | [],_,y,a=>by cases a
 | x::p,i,y,a=>by
  simp only[gh];rcases cr.1 a with rfl|a
  ·have:=Gl f p (max i (f y));omega
  ·exact CG f p _ y a
theorem vB{x:Tm n}:bL n x=0 ↔ cw n x=true/\gK n x<=12/\sz n x<=200:=by
 rw[<-gO];unfold xO;constructor
 ·intro a;split at a
  ·rename_i c;split at a
   ·cases a
   ·rename_i f;exact⟨c,by omega,by omega⟩
  ·cases a
 ·rintro ⟨b,d,e⟩;rw[if_pos b,if_neg (by omega)]
def DT(a:An):Prop:=bL a.1 a.2=0/\(cm a=6\/aY a.1 a.2=true)
theorem pi:vn DT:=by
 intro n b a h c;obtain⟨i,d⟩:=h;obtain⟨f1,f2,f3⟩:=vB.1 i;have f:aM ⟨n+1,b⟩:=aZ.2 f1;have g:=eY (bR n b) (f (bR n b) (by simp[aI,bR]));have e:b.1.1=4:=by
  by_cases e:b.1.1=4
  ·exact e
  ·have:b.2.2=[]:=b9 (g.2.2.2.2 e);rw[this]at c;cases c
 have k:=vb (λa=>1+sz n a) (λa=>by have:=(fJ n a).1;omega) b.2.2 a c;have j:=CG (λa=>gK n a) b.2.2 0 a c;simp only[sz,gK,if_pos e]at f2 f3;refine⟨vB.2 ⟨aZ.1 (bu n b a f c),by simp only at j ⊢;omega,by simp only at k ⊢;omega⟩,am ?_⟩;rcases d with d|d
 ·simp only[cm]at d;omega
 ·exact(zU d).2.2 a c
theorem zq{D:Nat}{l:List (Tm D)}{c:List An}(g:∀y∈c,DT y)(h:l.length=4)(n:c.length=4)(j:DU D l c):gH D l=true:=by
 unfold gH;rw[h];simp only[decide_true,eU,cZ];intro y k;obtain⟨a,e⟩:=dj k;have i:a<c.length:=by have:=(bj.1 e).1;omega
 obtain⟨o,f,d,_⟩:=j a c[a] (aV i);rw[e]at f;obtain rfl:=aJ f;obtain⟨m,b⟩:=g c[a] (gi _);unfold CR;rw[bP d,m,lp d,<-fR,cH _ _ _ _ d];rcases b with b|b
 ·have:cm (⟨(c[a]).1,(c[a]).2⟩:An)=6:=b;rw[this];rfl
 ·rw[b];simp
theorem Gk{w1 w':ah}{l:List (Tm (nQ b))}(q:ii (nQ b) (DC b) w1 w' a c l)(j:∀y∈b,aM y)(r:b.length=4):fV w'.heap.size w' (nQ b) l a/\l.length=4/\DU (nQ b) l b/\∀y∈l,aM ⟨nQ b,y⟩:=by
 obtain⟨E,F,G,H,A,f⟩:=q;have D:(DC b).length=4:=by simp[DC,r]
 have t:fV w'.heap.size w' (nQ b) l a:=by
  rcases f with f|⟨B,o,p,C,v,f⟩
  ·exact ak f
  ·exact am ⟨B,o,p,v,λd y i=>⟨(f d y i).1,(f d y i).2.1⟩⟩
 have m:DU (nQ b) l b:=by
  intro d e h;have g:d<l.length:=by have:=(bj.1 h).1;omega
  have z:(DC b)[d]?=some (bq (nQ b) e.1 e.2):=by simp[DC,h]
  have x:=j0 _ _ _ A d l[d] _ (aV g) z;have u:=fS (nQ b) e.1 (A4 b e (aU h)) e.2 (j e (aU h));have k:=bW _ _ _ _ _ _ x u;exact⟨l[d],aV g,k,aZ.2 (by rw[j8 _ _ _ _ k];exact aZ.1 (j e (aU h)))⟩
 refine⟨t,by omega,m,λy i=>?_⟩;obtain⟨d,g⟩:=dj i;have s:d<b.length:=by have:=(bj.1 g).1;omega
 obtain⟨I,n,_,w⟩:=m d b[d] (aV s);rw[g]at n;obtain rfl:=aJ n;exact w
def fG:Tm 1:=((6,0,.empty),(none,0),[])
theorem OY(B:Nat)(w:ah):In B w 1 fG:=⟨⟨by simp[fG,dp],by simp[fG,dp],aN _,by simp[fG],by simp[fG]⟩,ak rfl⟩
theorem Qa:cw 1 fG=true:=by
 have:(ByteArray.empty).toList=[]:=by rw[cE];rfl
 simp[cw,fG,cN,bR,this]
theorem d1(x:Tm 1)(a:x.1.1≠4):gK 1 x=0/\sz 1 x=0:=by simp[gK,sz,a]
theorem zP:bL 1 fG=0:=by
 rw[vB];have a:=d1 fG (by simp[fG]);exact⟨Qa,by rw[a.1];decide,by rw[a.2];decide⟩
theorem Kh:gH 1 (List.replicate 4 fG)=true:=by
 have:CR 1 fG=true:=by
  unfold CR;rw[zP];rfl
 unfold gH;simp only[List.length_replicate,decide_true,eU,cZ];intro b a;rw[List.eq_of_mem_replicate a];exact this
theorem CM(w:ah):au 203 #[] w λe w'=>e=aw (af (some ⟨w.heap.size,0,none⟩) 4 4)/\Hid (ii 1 (List.replicate 4 fG) w w' (some ⟨w.heap.size,0,none⟩) 4 (List.replicate 4 fG)):=by
 obtain⟨z,hit,p,q,r⟩:=bT gN;go_enter func203,ntmps203;go_wp2_with (at_make;refine lN _ rfl _ _ 52 rfl w.heap.size 54 z _ 4 underlying52 hit p q _ _ _ _ 4 rfl rfl rfl rfl (by rw[r];omega) (by unfold maxLen;omega) (aA _) ?_;intro B o b);have i:=av (rZ 1 (List.replicate 4 fG) 4 o);have h:Hid (ap w B):=⟨b.os,b.tape,b.output,b.size,λk l=>b.block k l (by simp)⟩;clear o b hit p q r;go_loopw [6] (λd wr=>∃k:Nat,k<=4/\d=ae k/\Hid (ap w wr/\vm 1 (List.replicate 4 fG) 4 w.heap.size k (List.replicate k fG) wr)) (λd _=>4-(intOf d).toNat)
 case atStart=>exact⟨0,by omega,rfl,h,i⟩
 case round=>
  obtain⟨k,l,rfl,a⟩:=hrel;clear i h;by_cases m:k<4
  ·have s:(List.replicate 4 fG)[k]?=some fG:=by rw[List.getElem?_replicate,if_pos m]
   have j:In wr.heap.size wr 1 fG:=OY _ _;have n:cG (λf=>w.heap.size<f) 1 fG:=by simp[cG,fG]
   have x:=av (a.2.step m fG s (aH _ _) fG j n (by simp[aK,fG,aO]));have u:Hid (ap w (jY wr w.heap.size (k*4) (gM 1 fG))):=by
    have c:=a.1;exact⟨c.os,c.tape,c.output,aG c.size (cT (bK _ _ _ _).symm),λf y=>(bz (by omega) _ _ _ _).trans (c.block f y)⟩
   obtain⟨g,t⟩:∃g,((List.replicate k fG).map (λC=>(⟨1,C⟩:An))++List.replicate (4-k) zA)[k]?=some g:=⟨_,aV (by simp;omega)⟩;obtain⟨D,E,F,G⟩:=a.out.2.2.1.cells k g t;have H:=λA=>a.2.2.1.free A;have I:(0:Int)<=(k:Int):=by omega
   have J:(k:Int)<4:=by omega
   have K:(k:Int)<=4:=by omega
   clear s j n t a;go_wp2_with fail;go_roundw
   case rel=>
    refine⟨k+1,by omega,by go_num,u,?_⟩;have e:List.replicate (k+1) fG=List.replicate k fG++ [fG]:=List.replicate_succ';rw[e];exact x
   case measure=>simp[intOf];omega
  ·obtain rfl:k=4:=by omega
   have v:=av (a.2.done rfl (by omega) a.1 (by unfold maxLen;omega));go_wp2_with fail
   go_ret
   exact⟨rfl,v⟩
structure bH (S:Nat->Prop) (w w':World):Prop where
 os:w'.os=w.os
 tape:w'.tape=w.tape
 output:w'.output=w.output
 size:w.heap.size<=w'.heap.size
 block:∀b,b<w.heap.size->¬S b->w'.heap[b]?=w.heap[b]?
theorem bH.refl(S:Nat->Prop)(w:World):bH S w w:=⟨rfl,rfl,rfl,aA _,λ_ _ _=>rfl⟩
theorem bH.trans{S T:Nat->Prop}{w w1 w2:World}(a:bH S w w1)(k:bH T w1 w2)(e:∀b,b<w.heap.size->T b->S b):bH S w w2:=
 ⟨k.os.trans a.os,k.tape.trans a.tape,k.output.trans a.output,aG a.size k.size,λb c d=>(k.block b (bi c a.size) (λf=>d (e b c f))).trans (a.block b c d)⟩
theorem bH.mono{T:Nat->Prop}(a:bH S w w1)(d:∀b,b<w.heap.size->S b->T b):bH T w w1:=⟨a.os,a.tape,a.output,a.size,λb c e=>a.block b c λk=>e (d b c k)⟩
theorem aR(a:Below w.heap.size w w')(S:Nat->Prop):bH S w w':=⟨a.os,a.tape,a.output,a.size,λb c _=>a.block b c⟩
theorem ex(a:w.grownBy w' row):bH (λb=>row=some b) w w':=⟨a.os,a.tape,a.output,a.size,λb c d=>a.block b c λe=>d e.symm⟩
theorem bO(w:World)(q o:Nat)(v:Value):bH (λb=>b=q) w (w.setCell ⟨q,o,none⟩ v):=
 ⟨rfl,rfl,rfl,by simp[World.setCell],λb _ c=>by
  have:q≠b:=λa=>c a.symm
  simp[World.setCell,bS,this]⟩
theorem bH.below(a:bH S w w')(e:B<=w.heap.size)(c:∀b,b<B->¬S b):Below B w w':=⟨a.os,a.tape,a.output,a.size,λb d=>a.block b (by omega) (c b d)⟩
theorem bH.cell{S:Nat->Prop}{w w':World}(a:bH S w w'){b:Nat}(o:Nat)(d:b<w.heap.size)(c:¬S b):w'.cell? ⟨b,o,none⟩=w.cell? ⟨b,o,none⟩:=by
 simp only[World.cell?,a.block b d c]
theorem bD(c:w.ownsRow base e sz v n xs)(k:bH S w w')(h:∀b,v.ownBlock=some b->¬S b):w'.ownsRow base e sz v n xs:=by
 refine⟨c.1,?_⟩;rcases c.2 with⟨e,g⟩|⟨a,cap,f,e,i,d,j⟩
 ·exact ak ⟨e,g⟩
 ·exact am ⟨a,cap,f,e,i,(k.block a (aS.1 d).1 (h a (by rw[e];rfl))).trans d,j⟩
theorem eh.kee{S:Nat->Prop}{w w':World}(a:bH S w w'){b o:Nat}(d:b<w.heap.size)(c:¬S b):{n:Nat}->{x:Tm n}->eh w b o n x->eh w' b o n x
 | 0,_,k=>k
 | _+1,_,k=>by
  obtain⟨e,f,g,h⟩:=k;exact⟨(a.cell _ d c).trans e,(a.cell _ d c).trans f,(a.cell _ d c).trans g,(a.cell _ d c).trans h⟩
theorem In.kee{S:Nat->Prop}{w w':World}(d:bH S w w'):{n:Nat}->{x:Tm n}->In w.heap.size w n x->cG (λb=>¬S b) n x->In w'.heap.size w' n x
 | 0,_,k,_=>k
 | _+1,x,k,o=>by
  obtain⟨p,a⟩:=k;refine⟨p,?_⟩;rcases a with a|⟨b,f,e,h,a⟩
  ·exact ak a
  ·rcases o with o|⟨q,r,c,m,o⟩
   ·exact ak o
   ·rw[e]at c;injection c with c;injection c with j l;subst j l;exact am ⟨b,f,e,bi h d.size,λi y g=>⟨(a i y g).1.kee d h m,(a i y g).2.kee d (o i y g)⟩⟩
/-! ### the keys -/
theorem AF:WideMaps.ArrKey Tryz.prog 51 3 2:=⟨underlying51,by kernel_rfl,by kernel_rfl,by kernel_rfl⟩
theorem fD:Keyed Tryz.prog 51:=Keyed.of_law AF.law
theorem FO:∃m,Tryz.prog.types.size=m+1:=by
 have a:(Tryz.prog.types.size==0)=false:=by kernel_rfl
 have b:Tryz.prog.types.size≠0:=dM.1 a;exact⟨Tryz.prog.types.size-1,by omega⟩
def pk(k:Int×Int):Value:=.agg #[.int .i64 k.1,.int .i64 k.2]
def kl(k:Int×Int):Lit:=.string (keyBytes [.int .i64 k.1,.int .i64 k.2])
def I2(k:Int×Int):Prop:=dp k.1/\dp k.2
theorem OA{a:Int}(b:dp a):(Lit.int .i64 a).wf=true:=iP (by unfold dp at b;omega)
theorem f9(a:I2 k):keyOf Tryz.prog 51 (pk k)=some (kl k):=WideMaps.keyOf_pair AF underlying3 FO (OA a.1) (OA a.2)
theorem qY{b:Int×Int}(c:I2 k)(d:I2 b)(e:kl k=kl b):k=b:=by
 have a:=fD.inj (f9 c) (e▸f9 d);simp only[pk,Value.agg.injEq,Array.mk.injEq,lC,Value.int.injEq,true_and,gU]at a;exact iO a.1 a.2
def sI(v:Value):Option (DataW Value×List MemPlace):=some (.held v,[])
def iz{a:Type}(f:Int×Int->a)(k:Int×Int)(x:a):Int×Int->a:=λj=>if j=k then x else f j
theorem dh(f:Int×Int->h)(k:Int×Int)(x:h):iz f k x k=x:=if_pos rfl
theorem ci(f:Int×Int->h)(x:h)(a:j≠k):iz f k x j=f j:=if_neg a
def nu:Value:=.slice none 0 0
def dN(N:Nat)(l:List (Tm N)):List Value:=cO (l.map (gM N))
theorem qC(N:Nat)(l:List (Tm N)):(dN N l).length=l.length*4:=by simp[dN,pd]
theorem qB(N:Nat)(l r:List (Tm N)):dN N (l++r)=dN N l++dN N r:=by simp[dN,wM]
def oS(base N:Nat)(v:Value)(l:List (Tm N))(w:World):Prop:=w.ownsRow base 54 4 v l.length (dN N l)
structure GM (base mb n N:Nat) (f:Int×Int->List (Tm N)) (sl:Int×Int->Value) (w:World):Prop where
 lo:base<=mb
 map:∃D,w.ownsMap Tryz.prog 51 sI mb n D/\(∀k,I2 k->D.atKey (kl k) (.held nu)=.held (sl k))/\∀x,has D x=true ↔∃k,I2 k/\x=kl k/\f k≠[]
 row:∀k,I2 k->oS base N (sl k) (f k) w
 apart:∀k j,I2 k->I2 j->k≠j->∀b,(sl k).ownBlock=some b->(sl j).ownBlock≠some b
def Ow(a:Nat)(sl:Int×Int->Value)(b:Nat):Prop:=b=a\/∃k,I2 k/\(sl k).ownBlock=some b
theorem eK(d:w.ownsRow base e sz v n xs)(b:Nat)(c:v.ownBlock=some b):∃a,w.heap[b]?=some (.cells a e (0,0)):=by
 rcases d.2 with⟨rfl,_⟩|⟨g,cap,a,rfl,_,f,_⟩
 ·simp[Value.ownBlock]at c
 ·simp[Value.ownBlock]at c;subst c;exact⟨a,f⟩
variable {base mb n N:Nat} {f:Int×Int->List (Tm N)} {sl:Int×Int->Value} {w:World}
theorem GM.lt(a:GM base mb n N f sl w)(b:Nat)(c:Ow mb sl b):base<=b/\b<w.heap.size:=by
 rcases c with rfl|⟨k,e,c⟩
 ·obtain⟨g,d,_⟩:=a.map;exact⟨a.lo,d.lt⟩
 ·exact(a.row k e).lt b c
theorem GM.ne(a:GM base mb n N f sl w)(g:I2 k):(sl k).ownBlock≠some mb:=by
 intro d;obtain⟨c,b⟩:=eK (a.row k g) mb d;obtain⟨h,⟨es,i,e,_⟩,_⟩:=a.map;rw[e]at b;cases b
theorem GM.kee(a:GM base mb n N f sl w)(k:bH S w w')(e:∀b,Ow mb sl b->¬S b):GM base mb n N f sl w':=by
 refine⟨a.lo,?_,λh g=>bD (a.row h g) k λb c=>e b (am ⟨h,g,c⟩),a.apart⟩;obtain⟨i,d,l⟩:=a.map;refine⟨i,?_,l⟩;have m:=d.lt;obtain⟨es,j,c,o⟩:=d;exact⟨es,j,(k.block mb m (e mb (ak rfl))).trans c,o⟩
theorem GM.mono(b:GM base mb n N f sl w){m:Nat}(i:n<=m):GM base mb m N f sl w:=by
 obtain⟨c,⟨a,d,e⟩,g,h⟩:=b;exact⟨c,⟨a,d.mono i,e⟩,g,h⟩
theorem GM.new(w:World)(N:Nat):GM w.heap.size w.heap.size 0 N (λ_=> []) (λ_=>nu) (w.alloc (.map #[] 0)):=
 ⟨aA _,⟨.map [],qm w _ _ _,λk _=>by simp[DataW.atKey],λe=>⟨λa=>by simp[has]at a,λ⟨k,_,_,a⟩=>absurd rfl a⟩⟩,
  λk _=>⟨by simp[dN,cO],ak ⟨rfl,rfl⟩⟩,λk d _ _ _ b c=>by simp[nu,Value.ownBlock]at c⟩
theorem oS.rebase{l:List (Tm N)}(a:oS base N v l w)(b:u<=base):oS u N v l w:=sF a b
theorem GM.rebase{b:Nat}(a:GM base mb n N f sl w)(c:b<=base):GM b mb n N f sl w:=
 ⟨aG c a.lo,a.map,λk d=>(a.row k d).rebase c,a.apart⟩
theorem LJ{d:DataW Value}{ps:List MemPlace}(a:sI v=some (d,ps)):d=.held v:=by
 unfold sI at a;injection a with a;injection a with b c;exact b.symm
theorem sU(w:World):(zeroValue 52).run Tryz.prog w=.ok (.slice none 0 0) w:=by kernel_rfl
theorem GM.look(d:GM base mb n N f sl w)(b:I2 k):(Instr.lookup 132 (.map (some mb)) (pk k) false).run Tryz.prog w=.ok (sl k) w:=by
 obtain⟨i,e,g,_⟩:=d.map;obtain⟨j,ps,h,c⟩:=e.lookup fD underlying132 (sU w) (zd:=.held nu) (zp:=[]) rfl (f9 b);rw[g k b]at c;have a:=LJ c;injection a with a;rw[h,a]
theorem IC(w:World)(b:I2 k):(Instr.lookup 132 (.map none) (pk k) false).run Tryz.prog w=.ok (.slice none 0 0) w:=by
 have a:=look_nil (P:=Tryz.prog) (w:=w) false fD underlying132 (sU w) (f9 b);simpa using a
theorem G5{D:DataW Value}(f:IsMap D)(e:I2 k)(b:I2 j)(v:Value)(c:DataW Value):(D.put (kl k) (.held v)).atKey (kl j) c=if j=k then .held v else D.atKey (kl j) c:=by
 by_cases a:j=k
 ·subst a;rw[if_pos rfl,atKey_put_same f (fD.key (f9 b))]
 ·rw[if_neg a,atKey_put_other λd=>a (qY b e d)]
theorem GM.put_of(h:GM base mb n N f sl w)(i:I2 k)(E:bH (λb=>b=mb\/(sl k).ownBlock=some b) w w1){l:List (Tm N)}(H:l≠[])(J:oS base N v l w1)(y:∀b,v.ownBlock=some b->(sl k).ownBlock=some b\/w.heap.size<=b)(x:bH (λb=>b=mb) w1 w2)(K:∀D,w.ownsMap Tryz.prog 51 sI mb n D->w2.ownsMap Tryz.prog 51 sI mb (n+1) (D.put (kl k) (.held v))):GM base mb (n+1) N (iz f k l) (iz sl k v) w2:=by
 obtain⟨D,j,C,t⟩:=h.map;have M:=j.lt;have I:∀b,v.ownBlock=some b->b≠mb:=λb e a=>by
  subst a;rcases y b e with a|a
  ·exact h.ne i a
  ·omega
 have z:∀c,I2 c->c≠k->∀b,(sl c).ownBlock=some b->v.ownBlock≠some b:=λc d G b e L=>by
  rcases y b L with a|a
  ·exact h.apart c k d i G b e a
  ·have:=((h.row c d).lt b e).2;omega
 refine⟨h.lo,⟨_,K D j,λc d=>?_,λB=>?_⟩,λc d=>?_,λp c u d o b=>?_⟩
 ·rw[G5 j.isMap i d];unfold iz;split
  ·rfl
  ·exact C c d
 ·constructor
  ·intro A;by_cases a:B=kl k
   ·exact⟨k,i,a,by rw[dh];exact H⟩
   ·rw[has_put_other a]at A;obtain⟨c,d,s,m⟩:=(t B).1 A;refine⟨c,d,s,?_⟩;rw[ci _ _ λg=>a (by rw[s,g])];exact m
  ·rintro ⟨c,d,rfl,m⟩;by_cases a:c=k
   ·rw[a,has_put_same j.isMap (fD.key (f9 i))]
   ·rw[has_put_other λg=>a (qY d i g)];rw[ci _ _ a]at m;exact(t _).2 ⟨c,d,rfl,m⟩
 ·by_cases a:c=k
  ·subst a;rw[dh,dh];exact bD J x λb e a=>I b e a
  ·rw[ci _ _ a,ci _ _ a];refine bD (bD (h.row c d) E λb e g=>?_) x λb e g=>h.ne d (by rw[e,g]);rcases g with g|g
   ·exact h.ne d (by rw[e,g])
   ·exact h.apart c k d i a b e g
 ·by_cases q:p=k
  ·subst q;rw[dh,ci _ _ λa=>o a.symm];exact λe F=>z c d (λa=>o a.symm) b F e
  ·rw[ci _ _ q];by_cases r:c=k
   ·subst r;rw[dh];exact λe=>z p u o b e
   ·rw[ci _ _ r];exact h.apart p c u d o b
theorem ju(a:w.mapTurned w2 mb):bH (λb=>b=mb) w w2/\w2.heap.size=w.heap.size:=by
 refine⟨(ex a.grown).mono λb _ c=>(aJ c).symm,?_⟩;obtain⟨_,_,_,_,_,rfl⟩:=a;simp[ChangeMaps.setBlock]
theorem GM.store(g:GM base mb n N f sl w){k:Int×Int}(h:I2 k){w1:World}(i:bH (λb=>(sl k).ownBlock=some b) w w1){v:Value}{l:List (Tm N)}(x:l≠[])(A:oS base N v l w1)(y:∀b,v.ownBlock=some b->(sl k).ownBlock=some b\/w.heap.size<=b)(F:n<1000000):∃w2,(Instr.mapUpdate 132 (.map (some mb)) (pk k) v).run Tryz.prog w1=.ok () w2/\GM base mb (n+1) N (iz f k l) (iz sl k v) w2/\bH (λb=>b=mb) w1 w2/\w2.heap.size=w1.heap.size:=by
 have p:∀a,w.ownsMap Tryz.prog 51 sI mb n a->∃w2,(Instr.mapUpdate 132 (.map (some mb)) (pk k) v).run Tryz.prog w1=.ok () w2/\w2.ownsMap Tryz.prog 51 sI mb (n+1) (a.put (kl k) (.held v))/\w1.mapTurned w2 mb:=by
  intro a c;have z:=c.lt;have t:w1.ownsMap Tryz.prog 51 sI mb n a:=by
   obtain⟨es,r,u,C⟩:=c;exact⟨es,r,(i.block mb z (g.ne h)).trans u,C⟩
  exact t.store (d:=.held v) (ps:=[]) fD underlying132 (by unfold maxLen;omega) (f9 h) rfl
 obtain⟨a,c,_⟩:=g.map;obtain⟨w2,m,_,E⟩:=p a c;obtain⟨j,D⟩:=ju E;refine⟨w2,m,g.put_of h (i.mono λb _ e=>am e) x A y j (λq s=>?_),j,D⟩;obtain⟨G,o,B,_⟩:=p q s;rw[m]at o;injection o with _ e;rw[e];exact B
theorem GM.entry(s:GM base mb n N f sl w)(g:I2 k)(ak:n<1000000):∃(q:Nat)(w1:World),(Instr.mapEntry 132 (.map (some mb)) (pk k)).run Tryz.prog w=.ok (.tuple #[sl k,goInt q]) w1/\bH (λb=>b=mb) w w1/\w1.heap.size=w.heap.size/\ ∀(w2:World)(v:Value)(l:List (Tm N)),w2.heap[mb]?=w1.heap[mb]? ->bH (λb=>b=mb\/(sl k).ownBlock=some b) w w2->l≠[]->oS base N v l w2->(∀b,v.ownBlock=some b->(sl k).ownBlock=some b\/w.heap.size<=b)-> ∃i,(Instr.entryStore 132 (.map (some mb)) (goInt q) v).run Tryz.prog w2=.ok () i/\GM base mb (n+1) N (iz f k l) (iz sl k v) i/\bH (λb=>b=mb) w2 i/\i.heap.size=w2.heap.size:=by
 obtain⟨I,t,aj,_⟩:=s.map;obtain⟨es,r,c,j,Z,P⟩:=t;have t:w.ownsMap Tryz.prog 51 sI mb n I:=⟨es,r,c,j,Z,P⟩;obtain⟨ah,q,o,m,X,H,aa⟩:=WideElems.entry_then_store (e:=52) AF.law underlying132 sU c j (f9 g);have K:ah=sl k:=by
  have x:=s.look g;obtain⟨am,ps,Y,al⟩:=t.lookup fD underlying132 (sU w) (zd:=.held nu) (zp:=[]) rfl (f9 g);rw[x]at Y;rcases Maps.fit_look false fD underlying132 (sU w) c j (f9 g)with⟨a,z,_⟩|⟨L,an,E,p,a,_⟩
  ·rw[x]at a;injection a with a _;rcases H with⟨B,y,h,_⟩|⟨_,rfl⟩
   ·exact absurd h (z B y)
   ·exact a.symm
  ·rw[x]at a;injection a with a _;rcases H with⟨B,y,h,rfl⟩|⟨z,_⟩
   ·have:=entry_eq_of_key ((MapKept.stamped_iff es r).1 j.stamped).2.2 E y (p.trans h.symm);simp at a;rw[a,this]
   ·exact absurd p (z L E)
 subst K;have ab:w.mapTurned (ChangeMaps.setBlock w mb (.map o m)) mb:=⟨es,r,o,m,c,rfl⟩;obtain⟨p,af⟩:=ju ab;refine⟨q,_,X,p,af,λw2 v l ae Q R T S=>?_⟩;have u:w2.heap[mb]?=some (.map o m):=ae.trans (tU c _);obtain⟨C,A,U,V⟩:=aa w2 v u;have ad:w2.mapTurned (ChangeMaps.setBlock w2 mb (.map C A)) mb:=⟨o,m,C,A,u,rfl⟩;obtain⟨h,ag⟩:=ju ad;refine⟨_,U,s.put_of g Q R T S h (λai O=>?_),h,ag⟩;obtain⟨i,G,F,_⟩:=O.store (d:=.held v) (ps:=[]) fD underlying132 (by unfold maxLen;omega) (f9 g) rfl;rw[V]at G;injection G with _ e;rw[<-e]at F;obtain⟨M,J,D,W⟩:=F;rw[tU c]at D;exact⟨M,J,(tU u _).trans D,W⟩
theorem GM.drop(h:GM base mb n N f sl w){k:Int×Int}(l:I2 k)(ty:TypeId):∃w2,(Builtin.delete_ #[132,51] ty #[.map (some mb),pk k]).run Tryz.prog w=.ok (.tuple #[]) w2/\GM base mb n N (iz f k []) (iz sl k nu) w2/\bH (λb=>b=mb) w w2/\w2.heap.size=w.heap.size:=by
 obtain⟨D,u,v,q⟩:=h.map;obtain⟨w2,A,z,C⟩:=u.drop fD underlying132 (f9 l) ty;obtain⟨r,B⟩:=ju C;refine⟨w2,A,⟨h.lo,⟨_,z,λc d=>?_,λt=>?_⟩,λc d=>?_,λs c x d y b=>?_⟩,r,B⟩
 ·by_cases a:c=k
  ·subst a;rw[dh,atKey_del_same]
  ·rw[ci _ _ a,atKey_del_other λe=>a (qY d l e)];exact v c d
 ·constructor
  ·intro j;by_cases a:t=kl k
   ·rw[a,has_del_same]at j;cases j
   ·rw[has_del_other a]at j;obtain⟨c,d,p,g⟩:=(q t).1 j;refine⟨c,d,p,?_⟩;rw[ci _ _ λe=>a (by rw[p,e])];exact g
  ·rintro ⟨c,d,rfl,g⟩;by_cases a:c=k
   ·rw[a,dh]at g;exact absurd rfl g
   ·rw[has_del_other λe=>a (qY d l e)];rw[ci _ _ a]at g;exact(q _).2 ⟨c,d,rfl,g⟩
 ·by_cases a:c=k
  ·subst a;rw[dh,dh];exact⟨by simp[dN,cO],ak ⟨rfl,rfl⟩⟩
  ·rw[ci _ _ a,ci _ _ a];exact bD (h.row c d) r λb i e=>h.ne d (by rw[i,e])
 ·by_cases m:s=k
  ·subst m;rw[dh];intro i;simp[nu,Value.ownBlock]at i
  ·rw[ci _ _ m];by_cases o:c=k
   ·subst o;rw[dh];intro _ i;simp[nu,Value.ownBlock]at i
   ·rw[ci _ _ o];exact h.apart s c x d y b
theorem xJ{P:Program}(w:ah)(t ty e:TypeId)(i:TypeInfo)(x:P.underlying t=some (.slice e))(r:P.info? e=some i)(g d k:Nat)(f:Array az)(q:w.heap[g]?=some (.cells f e (0,0)))(a:Addr)(m c:Nat)(b:dI)(s:b.length=m*i.size)(u:∀j h,b[j]?=some h->w.cell? (a.add j)=some h)(n:∀h∈b,h.oneCell'=true)(v:d+m<=k)(p:d*i.size+b.length<=f.size):(Builtin.append_ #[t,t] ty #[af (some ⟨g,0,none⟩) d k,af (some a) m c]).run P w= .ok (af (some ⟨g,0,none⟩) (d+m) k) (w.setRow g (f.toList.take (d*i.size)++b++f.toList.drop (d*i.size+b.length)).toArray):=by
 have o:=run_firstCells_some (P:=P) w i.size m a m c b s u;have l:=qp P g (d*i.size) e b 0 f w q (by simpa using p) n;simp only[jD]at l;simp[Builtin.append_,cM x,sizeOf,typeInfo,r,Builtin.lenOf,v,o,eT,l]
theorem Ip:(Tryz.prog.info? 54).map (λi=>(i.zero,i.size,i.bytes))=some (some (.agg #[ae 0,ae 0,ag ⟨#[]⟩,af none 0 0]),4,56):=by kernel_rfl
def qI:List az:=[ae 0,ae 0,ag ⟨#[]⟩,af none 0 0]
theorem xL(w:ah)(ty:TypeId)(g o c:Nat)(a:Array az)(e:w.heap[g]?=some (.cells a 54 (0,0)))(d:o+4<=a.size):(Builtin.clear_ #[52] ty #[af (some ⟨g,o,none⟩) 1 c]).run Tryz.prog w=.ok (ax #[]) (w.setRow g (a.toList.take o++qI++a.toList.drop (o+4)).toArray):=by
 have b:=qp Tryz.prog g o 54 qI 0 a w e (by simpa [qI]using d) (by simp[qI,Value.oneCell']);have h:(Builtin.zeroCells (Value.agg #[ae 0,ae 0,ag ⟨#[]⟩,af none 0 0]).cells 1).toList=qI:=by
  simp[Builtin.zeroCells,Value.cells,qI];rfl
 simp only[jD]at b;have f:qI.length=4:=rfl;rw[f]at b;simp[Builtin.clear_,cM underlying52,h,b]
theorem L5(w:ah)(g L c:Nat)(b:L<=c)(d:1<=L):(Instr.slice 52 (af (some ⟨g,0,none⟩) L c) (some (ae 0)) (some (ae 1)) (some (ae L))).run Tryz.prog w=.ok (af (some ⟨g,0,none⟩) 1 L) w:=by
 have a:(1:Int)<=(L:Int):=by omega
 simp[Instr.slice,cM underlying52,Instr.sliceBounds,Instr.sliceBound,asIntOf,a,b,go_sem]
theorem Fs(w:ah)(g L c:Nat):(Instr.slice 52 (af (some ⟨g,0,none⟩) L c) none (some (ae 0)) none).run Tryz.prog w=.ok (af (some ⟨g,0,none⟩) 0 c) w:=by
 simp[Instr.slice,cM underlying52,Instr.sliceBounds,Instr.sliceBound,asIntOf,go_sem]
theorem Ft(w:ah)(g L c:Nat)(d:L<=c)(e:2<=L):(Instr.slice 52 (af (some ⟨g,0,none⟩) L c) (some (ae 1)) none none).run Tryz.prog w=.ok (af (some ⟨g,4,none⟩) (L-1) (c-1)) w:=by
 have a:(1:Int)<=(L:Int):=by omega
 have b:¬c=1:=by omega
 simp[Instr.slice,cM underlying52,Instr.sliceBounds,Instr.sliceBound,asIntOf,a,b,go_sem,eT]
theorem Fr(w:ah)(g m c:Nat)(e:m+1<=c):(Instr.slice 52 (af (some ⟨g,0,none⟩) m c) (some (ae m)) (some (ae ((m:Int)+1))) none).run Tryz.prog w=.ok (af (some ⟨g,m*4,none⟩) 1 (c-m)) w:=by
 have a:¬c=m:=by omega
 have b:(m:Int)+1<=(c:Int):=by omega
 have d:(0:Int)<=(m:Int)+1:=by omega
 simp[Instr.slice,cM underlying52,Instr.sliceBounds,Instr.sliceBound,asIntOf,a,b,d,go_sem,eT]
theorem uO{w w':ah}{v x':az}{b:Array Oper}{o:Oper}{a:Act}{K:Act->bF}{Q:Exit->Act->bF}{E:Prop}(d:o.guard=none)(s x:Operand)(e:o.op=.call {callee:=.builtin .append,args:= #[s,x],argTypes:= #[52,52]})(g:a.eval s=v)(i:a.eval x=x')(f:(Builtin.append_ #[52,52] o.type #[v,x']).run Tryz.prog w=.ok l w')(c:K (a.put o.dst l) w'):if Region.wanted o (yielded b a.tmps)=true then Oper.wp Tryz.prog o a w K Q else E:=by
 have h:Region.wanted o (yielded b a.tmps)=true:=by simp[Region.wanted,d]
 rw[if_pos h];unfold Oper.wp execOp;simp only[e,resolve,invoke,builtin,jF,jG,jE,jB,bB,dB,g,i,f];exact c
theorem aj{w:ah}{a:Array az}(b:w.heap[g]?=some (.cells a e (0,0)))(j:Nat):w.cell? ⟨g,j,none⟩=a.toList[j]? :=by
 simp[World.cell?,b]
theorem Ea(base g c m:Nat)(y:Tm N)(l:List (Tm N))(w:ah)(j:l.length=m)(C:oS base N (af (some ⟨g,0,none⟩) (m+1) c) (y::l) w)(D:l≠[]):au 161 #[af (some ⟨g,0,none⟩) ((m:Nat)+1) c,ae 0,ae 1] w λe w'=>e=aw (af (some ⟨g,0,none⟩) m c)/\oS base N (af (some ⟨g,0,none⟩) m c) l w'/\w.grownBy w' (some g)/\w'.heap.size=w.heap.size:=by
 obtain⟨Q,hit,Y,M,Z⟩:=bT Ip;have X:0<m:=by
  rw[<-j];exact nK.2 D
 obtain⟨E,F⟩:=C;rcases F with⟨e,_⟩|⟨U,cap,d,e,J,r,H,I,u,t⟩
 ·cases e
 ·injection e with i A B;injection i with i;injection i with i _;subst i B;simp only[bv,j]at E H t A;have q:d.toList.length=c*4:=by rw[lw,u]
  have L:d.toList.take ((m+1)*4)=dN N [y]++dN N l:=by
   rw[t,<-qB];rfl
  have R:(dN N [y]).length=4:=by rw[qC];rfl
  have f:(dN N l).length=m*4:=by rw[qC,j]
  have z:Hid (∀a:ah,a.heap[g]?=some (.cells d 54 (0,0))->∀n o,(dN N l)[n]?=some o->a.cell? ((⟨g,4,none⟩:Addr).add n)=some o):=by
   intro a h n o s;have W:=(bj.1 s).1;rw[eT,aj h];have e:(d.toList.take ((m+1)*4))[4+n]?=some o:=by
    rw[L,ft (by omega),R,Nat.add_sub_cancel_left];exact s
   rw[jz]at e;split at e
   ·exact e
   ·cases e
  have v:Hid (∀(a:ah)(ty:TypeId),a.heap[g]?=some (.cells d 54 (0,0))->(Builtin.append_ #[52,52] ty #[af (some ⟨g,0,none⟩) 0 c,af (some ⟨g,4,none⟩) m (c-1)]).run Tryz.prog a=
   .ok (af (some ⟨g,0,none⟩) m c) (a.setRow g (dN N l++d.toList.drop (m*4)).toArray)):=by
   intro a ty h;have p:=xJ (P:=Tryz.prog) a 52 ty 54 Q underlying52 hit g 0 c d h ⟨g,4,none⟩ m (c-1) (dN N l) (by rw[f,M]) (z a h) (uo _) (by omega) (by rw[f,u];omega);simpa [f]using p
  have x:Hid (∀(a:ah)(ty:TypeId),a.heap[g]?=some (.cells (dN N l++d.toList.drop (m*4)).toArray 54 (0,0))->(Builtin.clear_ #[52] ty #[af (some ⟨g,m*4,none⟩) 1 (c-m)]).run Tryz.prog a=
   .ok (ax #[]) (a.setRow g (dN N l++qI++d.toList.drop ((m+1)*4)).toArray)):=by
   intro a ty h;have p:=xL a ty g (m*4) (c-m) _ h (by simp only[fN,br,eV,f,q];omega);rw[p];refine congrArg (λT=>Result.ok (Value.tuple #[]) (a.setRow g (List.toArray T))) ?_;rw[qk,ku (by omega),bI (by omega),List.drop_append,qd (by omega),f,List.drop_drop,nL];rw[show m*4+(m*4+4-m*4)=(m+1)*4 by omega]
  have G:=v w.drew 52 r;have HB:Hid ((w.drew.setRow g (dN N l++d.toList.drop (m*4)).toArray).heap[g]?=some (.cells (dN N l++d.toList.drop (m*4)).toArray 54 (0,0))):=setRow_heap w.drew g d _ _ _ r;have V:=λty:TypeId=>x _ ty HB;have aa:=λa:ah=>L5 a g (m+1) c (by omega) (by omega);have ab:=λa:ah=>Fs a g (m+1) c;have S:=λa:ah=>Ft a g (m+1) c (by omega) (by omega);have ad:=λa:ah=>Fr a g m c (by omega);rw[eu]at S;go_enter func161,ntmps161;go_wp2_with fail;go_region_held3 (λ_=>True) (trivial) ((first|(refine uO rfl _ _ rfl (by simp[Act.eval]) (by simp[Act.eval]) G ?_)));go_wp2_with fail
  go_ret
  have k:∀b,b≠g->((w.drew.setRow g (dN N l++d.toList.drop (m*4)).toArray).setRow g (dN N l++(qI++d.toList.drop ((m+1)*4))).toArray).heap[b]?=w.heap[b]? :=λb k=>(setRow_other _ _ _ _ k).trans (setRow_other _ _ _ _ k);refine⟨rfl,⟨by rw[f,j],am ⟨g,c,_,by rw[j],J,setRow_heap _ _ _ _ _ _ HB,by omega,I,?_,?_⟩⟩,⟨rfl,rfl,rfl,by simp,λb _ K=>k b λe=>K (by rw[e])⟩,by simp⟩
  ·have O:qI.length=4:=rfl;simp only[fN,br,eV,f,q,O];omega
  ·rw[qk,ku (by omega),bI (by omega)]
abbrev Ac(n:Nat):Type:=Int×(Tm n×Tm n)×(aq×Int)
abbrev Cl(n:Nat):Type:=(Tm n×Tm n×Tm n)×(ay×Nat)×List (Ac n)
abbrev Bh(n:Nat):Type:=aq×(ay×Nat)×List (Cl n)
def kZ(n:Nat)(x:Tm n):List az:=wL (gM n x)
def gZ(n:Nat)(a:Ac n):List az:=ae a.1::(kZ n a.2.1.1++kZ n a.2.1.2++ [ag a.2.2.1,ae a.2.2.2])
def fH(n:Nat)(c:Cl n):List az:=kZ n c.1.1++kZ n c.1.2.1++(af c.2.1.1 c.2.2.length c.2.1.2::kZ n c.1.2.2)
def rK(n:Nat)(b:Bh n):List az:=[ag b.1,af b.2.1.1 b.2.2.length b.2.1.2]
def Lay{c:Type}(B:Nat)(w:ah)(k:Nat)(f:c->List az)(i:c->Prop)(a:ay)(l:List c):Prop:=
 l=[]\/∃b o,a=some ⟨b,o,none⟩/\b<B/\∀(e:Nat)(d:c),l[e]?=some d->(∀(g:Nat)(h:az),(f d)[g]?=some h->w.cell? ⟨b,o+e*k+g,none⟩=some h)/\i d
def jL(n:Nat)(B:Nat)(w:ah)(a:Ac n):Prop:=dp a.1/\In B w n a.2.1.1/\In B w n a.2.1.2/\a.2.2.1.size<=maxLen/\dp a.2.2.2
def iR(n:Nat)(B:Nat)(w:ah)(c:Cl n):Prop:=(In B w n c.1.1/\In B w n c.1.2.1/\In B w n c.1.2.2)/\(c.2.2.length<=c.2.1.2/\c.2.1.2<=maxLen)/\Lay B w 11 (gZ n) (jL n B w) c.2.1.1 c.2.2
def rN(n:Nat)(B:Nat)(w:ah)(b:Bh n):Prop:=b.1.size<=maxLen/\(b.2.2.length<=b.2.1.2/\b.2.1.2<=maxLen)/\Lay B w 13 (fH n) (iR n B w) b.2.1.1 b.2.2
def uD{c:Type}(d:c->Prop)(P:aX)(a:ay)(l:List c):Prop:=l=[]\/∃b o,a=some ⟨b,o,none⟩/\P b/\∀y∈l,d y
def mP(n:Nat)(P:aX)(a:Ac n):Prop:=cG P n a.2.1.1/\cG P n a.2.1.2
def kH(n:Nat)(P:aX)(c:Cl n):Prop:=(cG P n c.1.1/\cG P n c.1.2.1/\cG P n c.1.2.2)/\uD (mP n P) P c.2.1.1 c.2.2
def kG(n:Nat)(P:aX)(b:Bh n):Prop:=uD (kH n P) P b.2.1.1 b.2.2
def kI{e:Type}(f:Nat->ah->e->Prop)(g:(Nat->Prop)->e->Prop):Prop:=
 (∀(d i:aX)(a:e),(∀b,d b->i b)->g d a->g i a)/\(∀(d:aX)(c:Nat)(w:ah)(a:e),g d a->f c w a->g (λb=>d b/\b<c) a)/\
 (∀(d:aX)(c:Nat)(w j:ah)(a:e),(∀b,d b->j.heap[b]?=w.heap[b]?)->g d a->f c w a->f c j a)/\(∀(c h:Nat)(w:ah)(a:e),c<=h->f c w a->f h w a)/\
 (∀(c:Nat)(w:ah)(a:e),f c w a->g (λb=>b<c) a)
theorem pN{B:Nat}{w:ah}:{n:Nat}->{x:Tm n}->In B w n x->cG (λb=>b<B) n x
 | 0,_,k=>k
 | _+1,_,k=>by
  obtain⟨_,a⟩:=k;rcases a with a|⟨b,o,e,c,a⟩
  ·exact ak a
  ·exact am ⟨b,o,e,c,λi y d=>pN (a i y d).2⟩
theorem eE(n:Nat):kI (λB w x=>In B w n x) (λP x=>cG P n x):=
 ⟨λ_ _ _ a k=>k.mono a,λ_ _ _ _ a k=>In.offB a k,λ_ _ _ _ _ a b k=>In.off a b k,λ_ _ _ _ a k=>k.mono a,λ_ _ _ k=>pN k⟩
theorem fW(n:Nat):kI (jL n) (mP n):=by
 obtain⟨t1,t2,t3,t4,t5⟩:=eE n
 exact⟨λc f d b k=>⟨t1 c f _ b k.1,t1 c f _ b k.2⟩,λc a w d b k=>⟨t2 c a w _ b.1 k.2.1,t2 c a w _ b.2 k.2.2.1⟩,
  λc a w h d b g k=>⟨k.1,t3 c a w h _ b g.1 k.2.1,t3 c a w h _ b g.2 k.2.2.1,k.2.2.2⟩,λa e w d b k=>⟨k.1,t4 a e w _ b k.2.1,t4 a e w _ b k.2.2.1,k.2.2.2⟩,
  λa w d k=>⟨t5 a w _ k.2.1,t5 a w _ k.2.2.1⟩⟩
theorem dc(d:kI r i)(k:Nat)(f:h->List az)(a:ay):kI (λB w l=>Lay B w k f (r B w) a l) (λP l=>uD (i P) P a l):=by
 obtain⟨t1,t2,t3,t4,t5⟩:=d;refine⟨λP v q d k=>?_,λP B w q d k=>?_,λP B w D q d p k=>?_,λB u w q d k=>?_,λB w q k=>?_⟩
 ·rcases k with k|⟨b,o,g,m,k⟩
  ·exact ak k
  ·exact am ⟨b,o,g,d b m,λc e=>t1 P v c d (k c e)⟩
 ·rcases k with k|⟨b,o,g,m,k⟩
  ·exact ak k
  ·rcases d with d|⟨x,A,n,s,d⟩
   ·exact ak d
   ·rw[g]at n;simp at n;obtain⟨rfl,rfl⟩:=n;refine am ⟨b,o,g,⟨s,m⟩,λc e=>?_⟩;obtain⟨j,t⟩:=dj e;exact t2 P B w c (d c e) (k j c t).2
 ·rcases k with k|⟨b,o,g,m,k⟩
  ·exact ak k
  ·rcases p with p|⟨x,A,n,s,p⟩
   ·exact ak p
   ·rw[g]at n;simp at n;obtain⟨rfl,rfl⟩:=n;exact am ⟨b,o,g,m,λj c e=>⟨λz C y=>(bN (d b s) _).trans ((k j c e).1 z C y),t3 P B w D c d (p c (aU e)) (k j c e).2⟩⟩
 ·rcases k with k|⟨b,o,g,m,k⟩
  ·exact ak k
  ·exact am ⟨b,o,g,by omega,λj c e=>⟨(k j c e).1,t4 B u w c d (k j c e).2⟩⟩
 ·rcases k with k|⟨b,o,g,m,k⟩
  ·exact ak k
  ·refine am ⟨b,o,g,m,λc e=>?_⟩;obtain⟨j,t⟩:=dj e;exact t5 B w c (k j c t).2
theorem eN(n:Nat):kI (iR n) (kH n):=by
 obtain⟨t1,t2,t3,t4,t5⟩:=eE n;have d:=λj=>dc (fW n) 11 (gZ n) j
 exact⟨λc f i b k=>⟨⟨t1 c f _ b k.1.1,t1 c f _ b k.1.2.1,t1 c f _ b k.1.2.2⟩,(d _).1 c f _ b k.2⟩,
  λc a w i b k=>⟨⟨t2 c a w _ b.1.1 k.1.1,t2 c a w _ b.1.2.1 k.1.2.1,t2 c a w _ b.1.2.2 k.1.2.2⟩,(d _).2.1 c a w _ b.2 k.2.2⟩,
  λc a w h i b g k=>⟨⟨t3 c a w h _ b g.1.1 k.1.1,t3 c a w h _ b g.1.2.1 k.1.2.1,t3 c a w h _ b g.1.2.2 k.1.2.2⟩,k.2.1,(d _).2.2.1 c a w h _ b g.2 k.2.2⟩,
  λa e w i b k=>⟨⟨t4 a e w _ b k.1.1,t4 a e w _ b k.1.2.1,t4 a e w _ b k.1.2.2⟩,k.2.1,(d _).2.2.2.1 a e w _ b k.2.2⟩,
  λa w i k=>⟨⟨t5 a w _ k.1.1,t5 a w _ k.1.2.1,t5 a w _ k.1.2.2⟩,(d _).2.2.2.2 a w _ k.2.2⟩⟩
theorem eM(n:Nat):kI (rN n) (kG n):=by
 have c:=λh=>dc (eN n) 13 (fH n) h
 exact⟨λd g e b k=>(c _).1 d g _ b k,λd a w e b k=>(c _).2.1 d a w _ b k.2.2,λd a w j e b i k=>⟨k.1,k.2.1,(c _).2.2.1 d a w j _ b i k.2.2⟩,
  λa f w e b k=>⟨k.1,k.2.1,(c _).2.2.2.1 a f w _ b k.2.2⟩,λa w e k=>(c _).2.2.2.2 a w _ k.2.2⟩
def iX(n:Nat)(B:Nat)(w:ah)(a:ay)(l:List (Bh n)):Prop:=Lay B w 2 (rK n) (rN n B w) a l
theorem kI.below(a:kI r i){w w':ah}(c:Below B w w'){x:h}(k:r B w x):r B w' x:=
 a.2.2.1 (λb=>b<B) B w w' x (λb d=>c.block b d) (a.2.2.2.2 B w x k) k
theorem kI.mono(a:kI r i){C:Nat}(b:B<=C){w:ah}{x:h}(k:r B w x):r C w x:=a.2.2.2.1 B C w x b k
theorem iX.below{n B:Nat}{w w':ah}{a:ay}{l:List (Bh n)}(b:Below B w w')(k:iX n B w a l):iX n B w' a l:=(dc (eM n) 2 (rK n) a).below b k
theorem iX.mono{n B C:Nat}(b:B<=C){w:ah}{a:ay}{l:List (Bh n)}(k:iX n B w a l):iX n C w a l:=(dc (eM n) 2 (rK n) a).mono b k
def fE{a:Type}(d:Nat->ah->a->Prop)(e:(Nat->Prop)->a->Prop)(f:a->List az)(k:Nat)(T:TypeId)(B base:Nat)(xs:List a)(v:az)(w0 wr:ah):Prop:=
 Below base w0 wr/\wr.ownsRow base T k v xs.length (xs.flatMap f)/\∀c∈xs,d wr.heap.size wr c/\e (λb=>(b<B\/base<=b)/\v.ownBlock≠some b) c
theorem fE.nil{k:Nat}(w:ah):fE r i f k T B base [] (af none 0 0) w w:=
 ⟨aH _ _,eX _ _ _ _,λb a=>by cases a⟩
theorem fE.later(b:kI r i){k:Nat}{xs:List h}{v:az}{w1:ah}(g:fE r i f k T B base xs v w0 wr)(j:base<=wr.heap.size)(a:ap wr w1):fE r i f k T B base xs v w0 w1:=by
 obtain⟨l,m,d⟩:=g;exact⟨l.trans (a.mono j),dV m a,λe c=>⟨b.mono a.size (b.below a (d e c).1),(d e c).2⟩⟩
theorem fE.step(e:kI r i){k:Nat}{xs:List h}{v:az}{w1 w2:ah}(D:fE r i f k T B base xs v w0 wr)(L:B<=base)(y:base<=wr.heap.size)(m:ap wr w1)(j:h)(w:r w1.heap.size w1 j)(F:i (λb=>b<B\/wr.heap.size<=b) j)(H:w2.ownsRow base T k (af (some ⟨g,0,none⟩) (xs.length+1) c) (xs.length+1) (xs.flatMap f++f j))(o:w1.grownBy w2 v.ownBlock)(x:v.ownBlock=some g\/g=w1.heap.size):fE r i f k T B base (xs++ [j]) (af (some ⟨g,0,none⟩) (xs.length+1) c) w0 w2:=by
 obtain⟨q,J,K⟩:=D;have u:∀b,v.ownBlock=some b->base<=b/\b<wr.heap.size:=λb d=>J.lt b d;have t:∀b,b<w1.heap.size->v.ownBlock≠some b->w2.heap[b]?=w1.heap[b]? :=λb y G=>o.block b y (λd=>G d.symm);have E:=m.size;have z:=o.size;refine⟨⟨(o.os.trans m.os).trans q.os,(o.tape.trans m.tape).trans q.tape,(o.output.trans m.output).trans q.output,by have:=q.size;omega,λb a=>?_⟩,?_,?_⟩
 ·exact(t b (by omega) (λd=>by have:=(u b d).1;omega)).trans ((m.block b (by omega)).trans (q.block b a))
 ·have C:(xs++ [j]).length=xs.length+1:=by simp
  have l:(xs++ [j]).flatMap f=xs.flatMap f++f j:=by simp
  rw[C,l];exact H
 ·intro s n;rcases dv.1 n with n|n
  ·obtain⟨A,I⟩:=K s n;have p:=e.2.1 _ _ _ _ I A;refine⟨e.mono z (e.2.2.1 _ _ w1 w2 s (λb a=>t b ?_ a.1.2) p (e.mono E (e.below m A))),e.1 _ _ s (λb a=>⟨a.1.1,?_⟩) p⟩
   ·have:=a.2;omega
   ·simp only[Value.ownBlock];intro d;injection d with d;rcases x with l|l
    ·exact a.1.2 (by rw[l,d])
    ·have:=a.2;omega
  ·simp only[dP]at n;subst n;have p:=e.2.1 _ _ _ _ F w;refine⟨e.mono z (e.2.2.1 _ _ w1 w2 s (λb a=>t b a.2 (λd=>?_)) p w),e.1 _ _ s (λb a=>⟨?_,?_⟩) p⟩
   ·have:=u b d;have:=a.1;omega
   ·have:=a.1;omega
   ·simp only[Value.ownBlock];intro d;injection d with d;rcases x with l|l
    ·have:=u g l;have:=a.1;omega
    ·have:=a.2;omega
theorem fE.lit(a:kI r i){k:Nat}(xs:List h){w1:ah}{cs:Array az}(e:cs.toList=xs.flatMap f)(q:∀x,(f x).length=k)(o:xs.length<=maxLen)(l:base<=w1.heap.size)(p:Below base w0 w1)(c:∀y∈xs,r w1.heap.size w1 y/\i (λb=>b<B\/base<=b) y):fE r i f k T B base xs (af (some ⟨w1.heap.size,0,none⟩) xs.length xs.length) w0 (w1.alloc (.cells cs T)):=by
 have d:ap w1 (w1.alloc (.cells cs T)):=aW _ _;have n:(xs.flatMap f).length=xs.length*k:=by
  clear e c o
  induction xs with
  | nil=>simp
  | cons x xs ih=>rw[bM,br,ih,q,bv,Nat.succ_mul];omega
 have s:cs.size=xs.length*k:=by rw[<-n,<-e];simp
 refine⟨p.trans (d.mono l),⟨by rw[n],am ⟨w1.heap.size,xs.length,cs,rfl,l,aL w1 _,aA _,o,by omega,?_⟩⟩,λy g=>⟨a.mono d.size (a.below d (c y g).1),?_⟩⟩
 ·rw[e,bI (by omega)]
 ·refine a.1 _ _ y (λb m=>⟨m.1,?_⟩) (a.2.1 _ _ _ _ (c y g).2 (c y g).1);simp only[Value.ownBlock];intro j;injection j with j;have:=m.2;omega
theorem fE.lay(y:kI r i){k:Nat}{xs:List h}{v:az}(u:∀x,(f x).length=k)(j:fE r i f k T B base xs v w0 wr):∃a c,v=af a xs.length c/\(xs.length<=c/\c<=maxLen)/\Lay wr.heap.size wr k f (r wr.heap.size wr) a xs/\uD (i (λb=>b<B\/base<=b)) (λb=>b<B\/base<=b) a xs:=by
 obtain⟨M,H,w⟩:=j;rcases H.2 with⟨q,J⟩|⟨s,cap,I,q,E,t,C,F,L,D⟩
 ·have G:xs=[]:=b9 (by omega);subst G;exact⟨none,0,q,⟨aA _,aN _⟩,ak rfl,ak rfl⟩
 ·refine⟨some ⟨s,0,none⟩,cap,q,⟨C,F⟩,am ⟨s,0,rfl,(aS.1 t).1,λd e p=>⟨λg n o=>?_,(w e (aU p)).1⟩⟩,am ⟨s,0,rfl,am E,λe p=>y.1 _ _ e (λb A=>A.1) (w e p).2⟩⟩;have z:∀(l:List h)(d g:Nat)(e:h)(n:az),l[d]?=some e->(f e)[g]?=some n->(l.flatMap f)[d*k+g]?=some n:=by
   intro l
   induction l with
   | nil=>intro d g e n j;simp at j
   | cons x l ih=>
    intro d g e n j o;rw[bM];cases d with
    | zero=>
     simp at j;subst j;rw[dO (by have:=(bj.1 o).1;omega)];simpa using o
    | succ d=>
     rw[ft (by rw[u,Nat.succ_mul];omega),u,Nat.succ_mul,show d*k+k+g-k=d*k+g by omega];exact ih d g e n (by simpa using j) o
  have m:=z xs d g e n p o;have K:=(bj.1 m).1;rw[<-D]at m;rw[jz]at m;split at m
  ·rw[cC];simp only[World.cell?,t];rw[nF]at m;simpa using m
  ·cases m
def JW(i:Option (List An))(f:List An->Option (List An))(w:ah)(e:Ending)(w':ah):Prop:=
 ∃h len c d,e=aw (ax #[af h len c,.bool d])/\Hid (ap w w'/\(i=none->d=false)/\∀b,i=some b->∃g:List (Tm (nQ b)),aO (λk m=>aK (nQ b) k (nQ b) m) g (DC b)=true/\(f (oP (nQ b) g)=none->d=false)/\
  ∀a,f (oP (nQ b) g)=some a->d=true/\len=4/\a.length=4/\∃j l,w.heap.size<=j.heap.size/\ii (nQ a) (DC a) j w' h c l)
theorem Fa(g h j k v x s0 s1 t0 t1:Int)(i m y q t2:aq)(pa n z sa K t:ay)(pl pc p o B A sl sc M L cl u:Nat)(R:Option (List An))(f:List An->Option (List An))(w:ah)(X:Hid (∀E W,ap w E->ii 1 (List.replicate 4 fG) E W (some ⟨E.heap.size,0,none⟩) 4 (List.replicate 4 fG)->au 202 #[aB g h i pa pl pc,aB s0 s1 q sa sl sc,af (some ⟨E.heap.size,0,none⟩) 4 4] W (zG 0 R W)))(aD:Hid (∀(b:List An)(l:List (Tm (nQ b)))(a:ay)(c:Nat)(E W:ah),ap w W->R=some b->b.length=4->ii (nQ b) (DC b) E W a c l->au 202 #[aB j k m n p o,aB t0 t1 t2 K M L,af a 4 c] W (zG 0 (f (oP (nQ b) l)) W))):au 177 #[.agg #[ae g,ae h,ag i,af pa pl pc,ae j,ae k,ag m,af n p o,af t cl u,ae v,ae x,ag y,af z B A],aB s0 s1 q sa sl sc,aB t0 t1 t2 K M L] w (JW R f w):=by
 go_enter func177,ntmps177;go_wp2_with fail;have Y:Hid (∃s d e F,(s=((w.alloc (.cells #[ae g,ae h,ag i,af pa pl pc,ae j,ae k,ag m,af n p o,af t cl u,ae v,ae x,ag y,af z B A] 229)).alloc (.cells #[ae s0,ae s1,ag q,af sa sl sc] 54)).alloc (.cells #[ae t0,ae t1,ag t2,af K M L] 54)/\d=w.heap.size/\e=w.heap.size+1/\F=w.heap.size+2)/\ap w s/\∀W,ap s W->(ai W d 0 (ae g)/\ai W d 1 (ae h)/\ai W d 2 (ag i)/\ai W d 3 (af pa pl pc))/\(ai W d 4 (ae j)/\ai W d 5 (ae k)/\ai W d 6 (ag m)/\ai W d 7 (af n p o))/\(ai W e 0 (ae s0)/\ai W e 1 (ae s1)/\ai W e 2 (ag q)/\ai W e 3 (af sa sl sc))/\(ai W F 0 (ae t0)/\ai W F 1 (ae t1)/\ai W F 2 (ag t2)/\ai W F 3 (af K M L))):=by
  have aV:(w.alloc (.cells #[ae g,ae h,ag i,af pa pl pc,ae j,ae k,ag m,af n p o,af t cl u,ae v,ae x,ag y,af z B A] 229)).heap.size=w.heap.size+1:=by simp
  have aX:((w.alloc (.cells #[ae g,ae h,ag i,af pa pl pc,ae j,ae k,ag m,af n p o,af t cl u,ae v,ae x,ag y,af z B A] 229)).alloc (.cells #[ae s0,ae s1,ag q,af sa sl sc] 54)).heap.size=w.heap.size+2:=by simp
  refine⟨_,_,_,_,⟨rfl,rfl,rfl,rfl⟩,((aW _ _).alloc (by simp) _).alloc (by simp;omega) _,λW G=>?_⟩;have r:=(G.block w.heap.size (by simp;omega)).trans (((aW _ _).block w.heap.size (by simp;omega)).trans (((aW _ _).block w.heap.size (by simp)).trans (aL w (.cells #[ae g,ae h,ag i,af pa pl pc,ae j,ae k,ag m,af n p o,af t cl u,ae v,ae x,ag y,af z B A] 229))));have an:=aL (w.alloc (.cells #[ae g,ae h,ag i,af pa pl pc,ae j,ae k,ag m,af n p o,af t cl u,ae v,ae x,ag y,af z B A] 229)) (.cells #[ae s0,ae s1,ag q,af sa sl sc] 54);rw[aV]at an;have P:=(G.block (w.heap.size+1) (by simp)).trans (((aW _ _).block (w.heap.size+1) (by simp)).trans an);have ao:=aL ((w.alloc (.cells #[ae g,ae h,ag i,af pa pl pc,ae j,ae k,ag m,af n p o,af t cl u,ae v,ae x,ag y,af z B A] 229)).alloc (.cells #[ae s0,ae s1,ag q,af sa sl sc] 54)) (.cells #[ae t0,ae t1,ag t2,af K M L] 54);rw[aX]at ao;have Q:=(G.block (w.heap.size+2) (by simp)).trans ao;exact⟨⟨aj r 0,aj r 1,aj r 2,aj r 3⟩,⟨aj r 4,aj r 5,aj r 6,aj r 7⟩,⟨aj P 0,aj P 1,aj P 2,aj P 3⟩,aj Q 0,aj Q 1,aj Q 2,aj Q 3⟩
 obtain⟨s,d,e,F,⟨al,ab,ad,ak⟩,C,D⟩:=Y.out;rw[<-al,<-ak,<-ad,<-ab];replace C:=av C;replace D:=av D;clear al ab ad ak Y;obtain⟨⟨aw,ax,az,aA⟩,_,⟨y0,y1,y2,aC⟩,_⟩:=D.out s (aH _ _);have I:Hid (ap s s.drew):=(aH _ _).drew;have O:Hid (∀W,ap s W->(ai W d 0 (ae g)/\ai W d 1 (ae h)/\ai W d 2 (ag i)/\ai W d 3 (af pa pl pc))/\(ai W e 0 (ae s0)/\ai W e 1 (ae s1)/\ai W e 2 (ag q)/\ai W e 3 (af sa sl sc))):=λW G=>⟨(D W G).1,(D W G).2.2.1⟩
 go_region_held3 (λW=>(W.cell? ⟨d,0,none⟩=some (ae g)/\W.cell? ⟨d,1,none⟩=some (ae h)/\W.cell? ⟨d,2,none⟩=some (ag i)/\W.cell? ⟨d,3,none⟩=some (af pa pl pc))/\(W.cell? ⟨e,0,none⟩=some (ae s0)/\W.cell? ⟨e,1,none⟩=some (ae s1)/\W.cell? ⟨e,2,none⟩=some (ag q)/\W.cell? ⟨e,3,none⟩=some (af sa sl sc)))
  (first|(go_keep;done)|exact O _ I|exact O _ S|exact O _ N) ((first
   | (go_at_call 203;refine(CM _).mono ?_;rintro Z bb ⟨rfl,U⟩;have N:=av (I.trans (U.1.mono I.size)))
   | (go_at_call 202;refine(X _ _ (C.trans (I.mono C.size)) U).mono ?_;rintro Z ar ⟨aI,a3,aM,a6,rfl,J⟩;have S:=av (N.trans (J.1.mono N.size)))))
 have H:=av (C.trans (S.mono C.size));clear aw ax az aA y0 y1 y2 aC O U N I X;cases R with
 | none=>
  obtain⟨rfl,rfl⟩:a3=0/\a6=false:=J.out.2.1 (by simp);clear J;go_wp2_with fail
  go_ret2
  exact⟨none,0,0,false,rfl,H,λ_=>rfl,λb aP=>by cases aP⟩
 | some b=>
  obtain⟨aU,aS,aa,a8,am,aY,V⟩:=J.out.2.2 b trivial rfl;subst aU aS;have aF:=av (aD b am aI aM a8 ar H rfl aa V);have aE:=av V.2.2.2.2.1;obtain⟨_,⟨aw,ax,az,aA⟩,_,y0,y1,y2,aC⟩:=D ar S;clear V J aa aY;go_wp2_with fail;refine aF.mono ?_;rintro Z bc ⟨aJ,a4,aN,a7,rfl,T⟩;go_wp2_with fail
  go_ret2
  refine⟨aJ,a4,aN,a7,rfl,H.trans (T.1.mono H.size),(λaO=>by cases aO),λba aQ=>?_⟩;cases aQ;refine⟨am,aE,λaT=>(T.2.1 (by simp[aT])).2,λaK aR=>?_⟩;obtain⟨aZ,a0,a1,a9,a5,a2,kc⟩:=T.2.2 aK trivial aR;exact⟨aZ,a0,a1,a9,a5,aG H.size a2,kc⟩
theorem MZ{p l:List (Tm n)}{w w':ah}(i:ii n p w w' a c l):fV w'.heap.size w' n l a:=by
 obtain⟨_,_,_,_,_,k⟩:=i;rcases k with d|⟨b,o,d,_,j,e⟩
 ·exact ak d
 ·exact am ⟨b,o,d,j,λg h f=>⟨(e g h f).1,(e g h f).2.1⟩⟩
theorem sC(a:DT y):aM y:=aZ.2 (bU.1 a.1).1
theorem DW:∀y∈oP 1 (List.replicate 4 fG),DT y:=by
 intro y a;simp only[oP,cg,List.mem_replicate]at a;obtain⟨b,⟨_,rfl⟩,rfl⟩:=a;exact⟨zP,ak rfl⟩
theorem gI{x:Tm n}(a:bL n x=0):(aI n x).length<=2097152:=aG (jQ a) (by omega)
theorem I5(n m k:Nat)(c:Cl (n+1))(s:Tm (m+1))(t:Tm (k+1))(B:Nat)(w:ah)(C:iR (n+1) B w c)(K:In B w (m+1) s)(L:In B w (k+1) t)(a:B<=w.heap.size)(u:bL (n+1) c.1.1=0)(v:bL (n+1) c.1.2.1=0)(p:bL (m+1) s=0)(x:kR (m+1) s=true)(y:bL (k+1) t=0)(H:kR (k+1) t=true):au 177 #[.agg (fH (n+1) c).toArray,dG (m+1) s,dG (k+1) t] w (JW (jc (n+1) c.1.1 (m+1) s (oP 1 (List.replicate 4 fG))) (jc (n+1) c.1.2.1 (k+1) t) w):=by
 refine Fa c.1.1.1.1 c.1.1.1.2.1 c.1.2.1.1.1 c.1.2.1.1.2.1 c.1.2.2.1.1 c.1.2.2.1.2.1 s.1.1 s.1.2.1 t.1.1 t.1.2.1 c.1.1.1.2.2 c.1.2.1.1.2.2 c.1.2.2.1.2.2 s.1.2.2 t.1.2.2 c.1.1.2.1.1 c.1.2.1.2.1.1 c.1.2.2.2.1.1 s.2.1.1 t.2.1.1 c.2.1.1
  c.1.1.2.2.length c.1.1.2.1.2 c.1.2.1.2.2.length c.1.2.1.2.1.2 c.1.2.2.2.2.length c.1.2.2.2.1.2 s.2.2.length s.2.1.2 t.2.2.length t.2.1.2 c.2.2.length c.2.1.2 _ _ w ?_ ?_
 ·intro r d z i;have h:=z.trans (i.1.mono z.size)
  have e:=yA (n+1) (m+1) 1 c.1.1 s (List.replicate 4 fG) (some ⟨r.heap.size,0,none⟩) 4 d.heap.size d ((C.1.1.below (h.mono a)).mono (aG a h.size)) ((K.below (h.mono a)).mono (aG a h.size)) (MZ i) (aA _) (gI u) (gI p) (λj f=>by
   rw[(List.mem_replicate.1 f).2]
   exact gI zP) (by simp)
  have o:uH (bL (n+1) c.1.1) (bL (m+1) s) (kR (m+1) s) (gH 1 (List.replicate 4 fG))=0:=by
   rw[u,p,x,Kh];rfl
  rw[o]at e;exact e
 ·intro b l E F r d g J G i;have q:=lQ DT pi (n+1) c.1.1 (m+1) s ⟨p,am (by rw[fR];exact x)⟩ (oP 1 (List.replicate 4 fG)) b ⟨by simp[oP],DW⟩ J;obtain⟨I,D,M,N⟩:=Gk i (λj f=>sC (q.2 j f)) G;have A:=zq q.2 D q.1 M;have e:=yA (n+1) (k+1) (nQ b) c.1.2.1 t l E F d.heap.size d ((C.1.2.1.below (g.mono a)).mono (aG a g.size)) ((L.below (g.mono a)).mono (aG a g.size)) I (aA _) (gI v) (gI y) (λj f=>gI ((iC A).2 j f).1) (by omega);have o:uH (bL (n+1) c.1.2.1) (bL (k+1) t) (kR (k+1) t) (gH (nQ b) l)=0:=by
   rw[v,y,H,A];rfl
  rw[o,D]at e;exact e
def xV(N:Nat)(o:Option (Tm (N+1)))(w:ah)(e:Ending)(w':ah):Prop:=
 ∃a:Tm (N+1),e=aw (ax #[aB a.1.1 a.1.2.1 a.1.2.2 a.2.1.1 a.2.2.length a.2.1.2,.bool o.isSome])/\Hid (ap w w'/\In w'.heap.size w' (N+1) a/\cG (λb=>w.heap.size<=b) (N+1) a/\aK (N+1) a (N+1) (o.getD (xx N))=true)
theorem LS{o:Option (Tm N)}:(GJ E (oR E o)==0)=(oR E o).isSome:=by
 unfold GJ;by_cases a:E=0
 ·rw[if_pos a];cases (oR E o).isSome<;>simp
 ·rw[if_neg a];have:oR E o=none:=by unfold oR;rw[if_neg a]
  rw[this];simp[a]
theorem DD(y:Tm (N+1)):dG (N+1) y=aB y.1.1 y.1.2.1 y.1.2.2 y.2.1.1 y.2.2.length y.2.1.2:=rfl
theorem MA{w w':ah}(b:Below (w.alloc (.cells #[v0,v1,v2,v3] t)).drew.heap.size (w.alloc (.cells #[v0,v1,v2,v3] t)).drew w'):ai w' w.heap.size 0 v0/\ai w' w.heap.size 1 v1/\ai w' w.heap.size 2 v2/\ai w' w.heap.size 3 v3/\w'.frozen? ⟨w.heap.size,0,none⟩=false/\w'.frozen? ⟨w.heap.size,1,none⟩=false/\w'.frozen? ⟨w.heap.size,2,none⟩=false/\w'.frozen? ⟨w.heap.size,3,none⟩=false:=by
 have a:=(b.block w.heap.size (by simp[World.drew])).trans (aL w (.cells #[v0,v1,v2,v3] t));exact⟨aj a 0,aj a 1,aj a 2,aj a 3,by simp[World.frozen?,a],by simp[World.frozen?,a],by simp[World.frozen?,a],by simp[World.frozen?,a]⟩
theorem O2{w w':ah}(a:Below (w.alloc (.cells #[v0,v1,v2,v3] t)).drew.heap.size (w.alloc (.cells #[v0,v1,v2,v3] t)).drew w'):w'.heap[w.heap.size]?=some (.cells #[v0,v1,v2,v3] t):=
 (a.block w.heap.size (by simp[World.drew])).trans (aL w (.cells #[v0,v1,v2,v3] t))
theorem tE{w:ah}(a:w.heap[g]?=some (.cells #[l,A,C,F] t))(v0 v1 v2 v3:az):(dl w g 0 v0 v1 v2 v3).heap[g]?=some (.cells #[v0,v1,v2,v3] t):=by
 simp[dl,World.setCell,bS,a]
def xU(N:Nat)(y:Tm (N+1))(w0:ah)(q p:Nat)(w2 b:ah):Prop:=
 ap w0 b/\b.heap[p]?=some (.cells #[ae y.1.1,ae y.1.2.1,ag y.1.2.2,af y.2.1.1 y.2.2.length y.2.1.2] 54)/\p≠q/\(∀a,a<w2.heap.size->a≠p->b.heap[a]?=w2.heap[a]?)/\cG (λa=>w0.heap.size<=a/\a<w2.heap.size/\a≠p) (N+1) y
theorem xU.cells{y:Tm (N+1)}{w2:ah}(b:xU N y w0 q p w2 z)(c:q<w0.heap.size)(d:w0.heap[q]?=some (.cells #[v0,v1,v2,v3] t)):(ai z p 0 (ae y.1.1)/\ai z p 1 (ae y.1.2.1)/\ai z p 2 (ag y.1.2.2)/\ai z p 3 (af y.2.1.1 y.2.2.length y.2.1.2))/\ (ai z q 0 v0/\ai z q 1 v1/\ai z q 2 v2/\ai z q 3 v3)/\z.frozen? ⟨q,0,none⟩=false/\z.frozen? ⟨q,1,none⟩=false/\z.frozen? ⟨q,2,none⟩=false/\z.frozen? ⟨q,3,none⟩=false/\p≠q:=by
 have a:=(b.1.block q c).trans d;exact⟨⟨aj b.2.1 0,aj b.2.1 1,aj b.2.1 2,aj b.2.1 3⟩,⟨aj a 0,aj a 1,aj a 2,aj a 3⟩,by simp[World.frozen?,a],by simp[World.frozen?,a],by simp[World.frozen?,a],by simp[World.frozen?,a],b.2.2.1⟩
theorem xU.close{y:Tm (N+1)}{o:Option (Tm (N+1))}{w w2:ah}(e:xU N y w0 q p w2 z)(b:ap w w0)(j:w.heap.size<=q)(s:q<w0.heap.size)(i:In w2.heap.size w2 (N+1) y)(k:aK (N+1) y (N+1) ((oR E o).getD (xx N))=true)(l:w2.heap.size<=z.heap.size):xV N (oR E o) w (aw (ax #[aB y.1.1 y.1.2.1 y.1.2.2 y.2.1.1 y.2.2.length y.2.1.2,.bool (GJ E (oR E o)==0)])) (dl z q 0 v0 v1 v2 v3):=by
 obtain⟨f,m,n,g,d⟩:=e;have h:=b.trans (f.mono b.size);have r:=b.size;refine⟨y,by rw[LS],dy h j _ _ _ _,?_,d.mono λa c=>by omega,k⟩;rw[bK];exact(In.off (P:=λa=>w0.heap.size<=a/\a<w2.heap.size/\a≠p) (λa c=>(bz (by omega) _ _ _ _).trans (g a c.2.1 c.2.2)) d i).mono l
theorem Af(N:Nat)(E:Int)(o:Option (Tm (N+1)))(r s:Int)(t:aq)(xa:ay)(u xc:Nat)(a:ay)(c:Nat)(self:Int)(f:Nat)(w:ah)(ab:f<w.heap.size)(d0:ai w f 0 (af a 4 c))(d1:ai w f 1 (ae self))(J:Hid (∀W,ap w W->au 205 #[aB r s t xa u xc,af a 4 c,ae self] W (Bo N E o W))):au 179 #[aF f,aB r s t xa u xc] w (xV N (oR E o) w):=by
 have S:Hid (∃d g y,(d=(w.alloc (.cells #[ae r,ae s,ag t,af xa u xc] 54)).alloc (.cells #[ae 0,ae 0,ag ⟨#[]⟩,af none 0 0] 54)/\g=w.heap.size/\y=w.heap.size+1)/\(g<d.heap.size/\f<d.heap.size/\y<d.heap.size/\w.heap.size<=y)/\ap w d/\d.heap[y]?=some (.cells #[ae 0,ae 0,ag ⟨#[]⟩,af none 0 0] 54)/\∀W,ap d W->(ai W g 0 (ae r)/\ai W g 1 (ae s)/\ai W g 2 (ag t)/\ai W g 3 (af xa u xc))/\ai W f 0 (af a 4 c)/\ai W f 1 (ae self)):=by
  have aa:ap w ((w.alloc (.cells #[ae r,ae s,ag t,af xa u xc] 54)).alloc (.cells #[ae 0,ae 0,ag ⟨#[]⟩,af none 0 0] 54)):=(aW _ _).alloc (by simp) _;have am:=aL (w.alloc (.cells #[ae r,ae s,ag t,af xa u xc] 54)) (.cells #[ae 0,ae 0,ag ⟨#[]⟩,af none 0 0] 54);rw[fP]at am;refine⟨_,_,_,⟨rfl,rfl,rfl⟩,⟨by simp;omega,by simp;omega,by simp,by omega⟩,aa,am,λW Y=>?_⟩;have K:=(Y.block w.heap.size (by simp;omega)).trans (((aW _ _).block w.heap.size (by simp)).trans (aL w (.cells #[ae r,ae s,ag t,af xa u xc] 54)));have Z:ap w W:=aa.trans (Y.mono (by simp;omega));exact⟨⟨aj K 0,aj K 1,aj K 2,aj K 3⟩,(Z.cell (p:=⟨f,0,none⟩) ab).trans d0,(Z.cell (p:=⟨f,1,none⟩) ab).trans d1⟩
 go_enter func179,ntmps179;go_wp2_with fail;obtain⟨d,g,y,⟨al,ad,ak⟩,i,n,I,h⟩:=S.out;rw[<-al,<-ak,<-ad];replace i:=av i;replace n:=av n;replace I:=av I;replace h:=av h;clear al ad ak S d0 d1;obtain⟨⟨T,U,V,X⟩,d0,d1⟩:=h.out d (aH _ _);have x:Hid (ap d d.drew):=(aH _ _).drew;have z:Hid (∀o:Obj,ap d (d.alloc o).drew):=λo=>(aW _ o).drew;have M:Hid (∀o:Obj,ap w (d.alloc o).drew):=λo=>n.trans ((z o).mono n.size);have O:=av (n.trans (x.mono n.size))
 go_region_held3 (λW=>(W.cell? ⟨g,0,none⟩=some (ae r)/\W.cell? ⟨g,1,none⟩=some (ae s)/\W.cell? ⟨g,2,none⟩=some (ag t)/\W.cell? ⟨g,3,none⟩=some (af xa u xc))/\W.cell? ⟨f,0,none⟩=some (af a 4 c)/\W.cell? ⟨f,1,none⟩=some (ae self))
  (first|(go_keep;done)|exact h _ x|exact h _ (z _)|exact h _ (j.alloc j.size _)|exact h _ ((((j.setCell (aA _) _).setCell (aA _) _).setCell (aA _) _).setCell (aA _) _)|exact h _ j) ((first
   | (go_at_call 205;refine(J _ O).mono ?_;rintro aC q ⟨b,rfl,e⟩;rw[DD];have j:=av (x.trans (e.1.mono x.size)))
   | (go_at_call 205;refine(J _ (M _)).mono ?_;rintro aC q ⟨b,rfl,e⟩;rw[DD];have j:=av ((z _).trans (e.1.mono (z _).size));have an:=av (O2 e.1);obtain⟨D,F,G,H,f0,f1,f2,f3⟩:=MA e.1)))
 ·have B:Hid (∃m p,(m=q.alloc (.cells #[ae b.1.1,ae b.1.2.1,ag b.1.2.2,af b.2.1.1 b.2.2.length b.2.1.2] 54)/\p=q.heap.size)/\xU N b d y p q m):=by
    refine⟨_,_,⟨rfl,rfl⟩,j.alloc j.size _,aL _ _,?_,λL A _=>(aW _ _).block L A,?_⟩
    ·have:=i.2.2.1;have:=j.size;omega
    ·exact(In.offB e.2.2.1 e.2.1).mono λL A=>by have:=x.size;omega
  obtain⟨m,p,⟨l,C⟩,k⟩:=B.out;rw[<-l,<-C];replace k:=av k;have P:=av e.2.1;have Q:=av e.2.2.2;have R:Hid (q.heap.size<=m.heap.size):=by
   rw[l];simp[Hid]
  clear l C B e J h z M O x T U V X d0 d1;obtain⟨⟨ao,ar,aw,az⟩,⟨D,F,G,H⟩,f0,f1,f2,f3,aD⟩:=k.out.cells i.2.2.1 I;go_wp2_with fail;exact aE (v:=ax #[aB b.1.1 b.1.2.1 b.1.2.2 b.2.1.1 b.2.2.length b.2.1.2,.bool (GJ E (oR E o)==0)]) (by simp[results,results179,go_sem,D,F,G,H]) rfl (k.close n i.2.2.2 i.2.2.1 P Q R)
 ·have B:Hid (∃m p,(m=dl q d.heap.size 0 (ae b.1.1) (ae b.1.2.1) (ag b.1.2.2) (af b.2.1.1 b.2.2.length b.2.1.2)/\p=d.heap.size)/\xU N b d y p q m):=by
    refine⟨_,_,⟨rfl,rfl⟩,((((j.setCell (aA _) _).setCell (aA _) _).setCell (aA _) _).setCell (aA _) _),?_,?_,λL _ A=>bz A _ _ _ _,?_⟩
    ·exact tE an _ _ _ _
    ·have:=i.2.2.1;omega
    ·exact(In.offB e.2.2.1 e.2.1).mono λL A=>by
       have:=A.1;simp[World.drew]at this;omega
  obtain⟨m,p,⟨l,C⟩,k⟩:=B.out;replace k:=av k;have P:=av e.2.1;have Q:=av e.2.2.2;have R:Hid (q.heap.size<=m.heap.size):=by
   rw[l,bK];exact aA _
  unfold dl at l;simp only[cC]at l;rw[<-l,<-C];clear l C B e J h z M O x T U V X d0 d1 D F G H f0 f1 f2 f3;obtain⟨⟨ao,ar,aw,az⟩,⟨D,F,G,H⟩,f0,f1,f2,f3,aD⟩:=k.out.cells i.2.2.1 I;go_wp2_with fail;exact aE (v:=ax #[aB b.1.1 b.1.2.1 b.1.2.2 b.2.1.1 b.2.2.length b.2.1.2,.bool (GJ E (oR E o)==0)]) (by simp[results,results179,go_sem,D,F,G,H]) rfl (k.close n i.2.2.2 i.2.2.1 P Q R)
def Gu{N:Nat}:Option (Tm (N+1))->Bool
 | some a=>a.1.1==3
 | none=>false
theorem B6(N:Nat)(o:Option (Tm (N+1)))(a d:Int)(f:aq)(xa:ay)(g xc:Nat)(q:Nat)(w:ah)(p:Hid (∀W,ap w W->au 179 #[aF q,aB a d f xa g xc] W (xV N o W))):au 238 #[aF q,aB a d f xa g xc] w λe w'=>∃r,e=aw (ax #[ae r,.bool (Gu o)])/\Hid (ap w w'/\∀b,o=some b->r=b.1.2.1):=by
 have h:Hid (∀o:Obj,ap w (w.alloc o)):=λo=>aW _ o;have s:(w.alloc (.cells #[ae a,ae d,ag f,af xa g xc] 54)).cell? ⟨w.heap.size,0,none⟩=some (ae a):=aj (aL w _) 0;go_enter func238,ntmps238;go_wp2_with fail;refine(p _ (h _)).mono ?_;rintro e v ⟨x,rfl,i⟩;have l:=av ((h (.cells #[ae a,ae d,ag f,af xa g xc] 54)).trans (i.1.mono (h _).size));have n:=av i.2.2.2;have m:Hid (∀k:Obj,ap w (v.alloc k).drew):=λk=>(l.alloc l.size k).drew;clear i p s;cases o with
 | none=>
  simp only[nP];go_wp2_with fail;go_region
  all_goals
   go_wp2_with fail
   go_ret2
   exact⟨_,rfl,m _,λb j=>by cases j⟩
 | some b=>
  simp only[lJ];have c:=n.out;simp only[Option.getD_some,aK,aT,cU]at c;have t:Hid (Gu (some b)=(x.1.1==3)):=by
   show _=_;rw[c.1.1.1];rfl
  have u:=av c.1.1.2;clear c n;go_wp2_with fail;go_region
  all_goals
   go_wp2_with fail
   go_ret2
   rw[t.out];exact⟨_,rfl,m _,λy j=>by cases j;exact u⟩
theorem Nt:(Tryz.prog.info? 3).map (λi=>(i.zero,i.size,i.bytes))=some (some (ae 0),1,8):=by kernel_rfl
def PV(base i:Nat)(f:ay)(L g:Nat)(xs:dI)(t:Bool)(h:Int->Prop)(w:ah)(e:Ending)(w':ah):Prop:=
 e=aw (.bool t)/\(t=false->ap w w')/\
  (t=true->∃d a c b,h d/\b.ownsRow base 3 1 (af (some ⟨a,0,none⟩) (L+1) c) (L+1) (xs++ [ae d])/\bH (λj=>(Value.slice f L g).ownBlock=some j) w b/\((Value.slice f L g).ownBlock=some a\/w.heap.size<=a)/\w'=b.setCell ⟨i,5,none⟩ (af (some ⟨a,0,none⟩) (L+1) c))
theorem IA(k u v:Int)(x:aq)(xa:ay)(y xc:Nat)(y0 y1:Int)(y2:aq)(ya:ay)(yl yc:Nat)(nm:aq)(N:Int)(base a:Nat)(b:ay)(L c:Nat)(xs:dI)(w:ah)(t:Bool)(z:Int->Prop)(ab:L<=10000)(G:a<w.heap.size)(ad:base<=w.heap.size)(A:Hid (ai w a 5 (af b L c)/\w.frozen? ⟨a,5,none⟩=false))(U:Hid (w.ownsRow base 3 1 (af b L c) L xs))(B:Hid ((Value.slice b L c).ownBlock≠some a))(C:Hid (∀W,ap w W->au 238 #[aF a,aB u v x xa y xc] W λe w'=>∃f,e=aw (ax #[ae f,.bool t])/\Hid (ap W w'/\z f))):au 230 #[aF a,.agg #[ae k,ae u,ae v,ag x,af xa y xc,ae y0,ae y1,ag y2,af ya yl yc,ag nm,ae N]] w (PV base a b L c xs t z w):=by
 obtain⟨j,hit,I,J,K⟩:=bT Nt;have n:Hid (Tryz.prog.info? 3=some j/\j.zero=some (ae 0)/\j.size=1/\j.bytes=8):=⟨hit,I,J,K⟩;clear hit I J K;have D:Hid (∃r,r=w.alloc (.cells #[ae k,ae u,ae v,ag x,af xa y xc,ae y0,ae y1,ag y2,af ya yl yc,ag nm,ae N] 268)/\ap w r):=⟨_,rfl,aW _ _⟩;go_enter func230,ntmps230;go_wp2_with fail;obtain⟨r,M,F⟩:=D.out;rw[<-M];have m:=av F;clear M F D;refine(C _ m).mono ?_;rintro e l ⟨f,rfl,q⟩;have d:=av (m.trans (q.1.mono m.size));have P:=av q.2;clear q C m;cases t
 ·go_wp2_with fail
  go_ret
  exact⟨rfl,λ_=>d,λh=>(by cases h)⟩
 ·have V:ai l a 5 (af b L c):=(d.cell (p:=⟨a,5,none⟩) G).trans A.1;have S:Hid (l.ownsRow base 3 1 (af b L c) L xs):=bD U (aR d λ_=>False) λ_ _ h=>h;have g:=av d.size;have Q:Hid (l.frozen? ⟨a,5,none⟩=false):=by
   have i:=A.2;unfold World.frozen? at i ⊢;rw[d.out.block a G];exact i
  go_wp2_with (first
   | (at_builtin;refine wpList_append_lies _ rfl _ _ 107 rfl base 3 j _ 1 8 underlying107 n.1 n.2.1 n.2.2.1 n.2.2.2 rfl (by decide) (af b L c) L xs rfl (S.alloc _) ⟨l.heap.size,0,none⟩ 1 1 [ae f] rfl rfl (World.news_of_block (cs:= #[ae f]) (t:=3) (fr:=(0,0)) (aL l _)) (by simp[Value.oneCell']) (by decide) (by unfold maxLen;omega) (by omega) (by have:=g.out;simp;omega) _ rfl ?_;intro Y X s H o E Z;have T:=av H;have R:=av o;have O:=av E;have aa:ai s a 5 (af b L c):=(o.cell_far ⟨a,5,none⟩ (by show a<_;have:=g.out;simp;omega) (λe=>B e.symm)).trans ((aW _ _ |>.cell (p:=⟨a,5,none⟩) (by show a<_;have:=g.out;omega)).trans V);have f5:s.frozen? ⟨a,5,none⟩=false:=(o.frozen_far ⟨a,5,none⟩ (by show a<_;have:=g.out;simp;omega) (λe=>B e.symm)).trans (by have i:=Q.out;unfold World.frozen? at i ⊢;rw[(aW _ (.cells #[ae f] 3)).block a (by have:=g.out;omega)];exact i);clear H o E Z))
  go_ret
  refine⟨rfl,λh=>(by cases h),λ_=>⟨f,Y,X,s,P.out,T.out,?_,?_,rfl⟩⟩
  ·exact bH.trans (aR (d.alloc d.size _) _) (ex R) λ_ _ e=>e
  ·rcases O with e|e
   ·exact ak e
   ·have:=g.out;simp at e;exact am (by omega)
section
variable {P:Program} {ops:Array Oper} {Q:Exit->Act->bF} {md:Region.Mode} {S:bF} {X:Nat}
def kE(P:Program)(md:Region.Mode)(ops:Array Oper)(Q:Exit->Act->bF)(S:bF)(X:Nat):Nat->Array Bool->Act->ah->Prop
 | 0,listed,a,w=>Region.ready md ops listed=[]/\Q .normal a w
 | fuel+1,listed,a,w=>
  (Region.ready md ops listed=[]->Q .normal a w)/\
  ∀i∈Region.ready md ops listed,wpOp P ops Q i (λb w'=>(i≠X->S w')/\kE P md ops Q S X fuel (listed.setIfInBounds i true) b w') a w
theorem xt:∀(fuel:Nat)(b:Array Bool)(a:Act)(w:ah),kE P md ops Q S X fuel b a w->wpAny P md ops Q fuel b a w
 | 0,_,_,_,h=>h
 | fuel+1,_,_,_,h=>⟨h.1,λi e=>wpOp_mono (λc w' d=>xt fuel _ c w' d.2) (h.2 i e)⟩
theorem Bb{i:Nat}{m:Oper}{v:az}(z:ops[i]?=some m)(G:∀(j:Nat)(o:Oper) cs b,ops[j]?=some o->o.op≠.select cs b)(L:∀c a w,Q (.panic c) (a.put m.dst v) w->Q (.panic c) a w)(M:∀d,ops[X]?=some d->∃e∈d.after,Region.binds md e=true/\e.on=i):∀(p:Nat)(f:Array Bool)(a:Act)(w:ah),(∀j d,ops[j]?=some d->j≠i->f.getD j true=false->(∀e∈d.after,Region.binds md e=true->e.on≠i)->m.apart ops d=true)-> i∈Region.ready md ops f->YieldsIf P ops S m v a->S w-> kE P md ops Q S X p (f.setIfInBounds i true) (a.put m.dst v) w->kE P md ops Q S X (p+1) f a w:=by
 intro p
 induction p with
 | zero=>
  intro f a w _ l u q n;refine⟨λx=>(by rw[x]at l;cases l),λj s=>?_⟩;by_cases g:j=i
  ·subst g;exact u.wpOp z q ⟨λ_=>q,n⟩
  ·have:=ready_mono s g;rw[n.1]at this;cases this
 | succ p ih=>
  intro f a w B l u q n;refine⟨λx=>(by rw[x]at l;cases l),λj s=>?_⟩;by_cases g:j=i
  ·subst g;exact u.wpOp z q ⟨λ_=>q,n⟩
  ·have h:=n.2 j (ready_mono s g);obtain⟨D,d,t,N⟩:=mem_ready.1 s;have F:∀e∈d.after,Region.binds md e=true->e.on≠i:=λe T O V=>by
    have h:=N e T O;have A:=(mem_ready.1 l).1;rw[V]at h;rcases Nat.lt_or_ge i f.size with y|y
    ·simp[y]at A h;rw[A]at h;cases h
    ·simp[Array.getElem?_eq_none y]at h
   have E:j≠X:=λe=>by
    obtain⟨J,U,R,ab⟩:=M d (by rw[<-e];exact t);exact F J U R ab
   have K:=wpOp_putIf t (B j d t g D F) (λcs b=>G i m cs b z) (λcs b=>G j d cs b t) L u h
   have W:∀k ok,ops[k]?=some ok->k≠i->(f.setIfInBounds j true).getD k true=false->
     (∀e∈ok.after,Region.binds md e=true->e.on≠i)->m.apart ops ok=true:=λk ok Y Z H aa=>by
    refine B k ok Y Z ?_ aa;by_cases C:j=k
    ·subst C;exact D
    ·rw[getD_set_ne true C]at H;exact H
   refine wpOp_mono (λI ad r=>⟨λ_=>r.2.1 E,ih (f.setIfInBounds j true) I ad W (ready_mono l (Ne.symm g)) r.1 (r.2.1 E) ?_⟩) K;rw[Array.setIfInBounds_comm _ _ g];exact r.2.2
def Ba(md:Region.Mode)(ops:Array Oper)(X i:Nat):Bool:=((ops[X]?).map λo=>o.after.any λe=>Region.binds md e && e.on==i).getD false
theorem FQ{i:Nat}(a:Ba md ops X i=true):∀b,ops[X]?=some b->∃e∈b.after,Region.binds md e=true/\e.on=i:=λb c=>by
 unfold Ba at a;rw[c]at a;simp only[lK,Option.getD_some,Array.any_eq_true]at a;obtain⟨k,d,a⟩:=a;simp only[aT,cU]at a;exact⟨_,Array.getElem_mem d,a.1,a.2⟩
theorem bt{i:Nat}{d:Oper}{v:az}{e:Nat}{b:Array Bool}{a:Act}{w:ah}(f:ops[i]?=some d)(n:Region.noSelect ops=true)(k:Region.free md ops b i=true)(m:(Region.ready md ops b).contains i=true)(o:Ba md ops X i=true)(h:∀c a w,Q (.panic c) (a.put d.dst v) w->Q (.panic c) a w)(l:d.guard=none)(p:∀w,S w->(execOp a.eval d).run P w=.ok (.value v) w)(j:S w)(g:kE P md ops Q S X e (b.setIfInBounds i true) (a.put d.dst v) w):kE P md ops Q S X (e+1) b a w:=
 Bb f (Region.noSelect_spec n) h (FQ o) e b a w (Region.free_spec f k) (by simpa using m) (ak ⟨by simp[Region.wanted,l],p⟩) j g
theorem dx{i:Nat}{o:Oper}{d:Nat}{c:Array Bool}{a:Act}{w:ah}(h:Region.ready md ops c=[i])(n:ops[i]?=some o)(l:o.guard=none)(j:∀K:Act->ah->Prop,Hid (∀b w',(i≠X->S w')->(S w'->kE P md ops Q S X d (c.setIfInBounds i true) b w')->K b w')->o.wp P a w K Q)(m:i≠X):kE P md ops Q S X (d+1) c a w:=by
 refine⟨λe=>(by rw[h]at e;cases e),λq g=>?_⟩;rw[h]at g;obtain rfl:q=i:=by simpa using g
 unfold wpOp;simp only[n];have p:Region.wanted o (yielded ops a.tmps)=true:=by simp[Region.wanted,l]
 simp only[p,cD];exact ak (j _ λb w' f k=>⟨f,k (f m)⟩)
theorem kh{o:Oper}{c:Nat}{d:Array Bool}{a:Act}{w:ah}(i:Region.ready md ops d=[X])(m:ops[X]?=some o)(l:o.guard=none)(g:Region.ready md ops (d.setIfInBounds X true)=[])(j:∀K:Act->ah->Prop,Hid (∀b w',Q .normal b w'->K b w')->o.wp P a w K Q):kE P md ops Q S X (c+1) d a w:=by
 refine⟨λe=>(by rw[i]at e;cases e),λp h=>?_⟩;rw[i]at h;obtain rfl:p=X:=by simpa using h
 unfold wpOp;simp only[m];have n:Region.wanted o (yielded ops a.tmps)=true:=by simp[Region.wanted,l]
 simp only[n,cD];refine ak (j _ λb w' f=>⟨λk=>absurd rfl k,?_⟩);cases c with
 | zero=>exact⟨g,f⟩
 | succ c=>exact⟨λ_=>f,by rw[g];simp⟩
theorem ki(S:bF)(X:Nat){id:Nat}{a:Act}{w:ah}(c:P.follows .mixedOrders=true)(b:kE P .any ops Q S X ops.size (Array.replicate ops.size false) a w.drew):(Code.region id ops true).wp P Q a w:=
 wp_region_any c (xt _ _ _ _ b)
end
theorem KX:(Tryz.prog.info? 250).map (λi=>(i.zero,i.size,i.bytes))=some (some (.agg #[ae 0,ae 0,ae 0,ag ⟨#[]⟩,af none 0 0]),5,64):=by kernel_rfl
def Ox{N:Nat}(b:Int)(a:Tm (N+1)):List az:=[ae b,ae a.1.1,ae a.1.2.1,ag a.1.2.2,af a.2.1.1 a.2.2.length a.2.1.2]
def PZ(N base k:Nat)(h:ay)(L i:Nat)(xs:dI)(t:Bool)(j:Int->Prop)(o:Option (Tm (N+1)))(w:ah)(e:Ending)(w':ah):Prop:=
 e=aw (.bool (t && o.isSome))/\((t && o.isSome)=false->ap w w')/\
  ((t && o.isSome)=true->∃(g:Int)(f:Tm (N+1))(a c:Nat)(b:ah),j g/\aK (N+1) f (N+1) (o.getD (xx N))=true/\In b.heap.size b (N+1) f/\cG (λd=>w.heap.size<=d/\d≠a) (N+1) f/\b.ownsRow base 250 5 (af (some ⟨a,0,none⟩) (L+1) c) (L+1) (xs++Ox g f)/\bH (λd=>(Value.slice h L i).ownBlock=some d) w b/\((Value.slice h L i).ownBlock=some a\/w.heap.size<=a)/\w'=b.setCell ⟨k,3,none⟩ (af (some ⟨a,0,none⟩) (L+1) c))
theorem Jk(N:Nat)(k ab ad:Int)(al:aq)(xa:ay)(an xc:Nat)(y0 y1:Int)(y2:aq)(ya:ay)(yl yc:Nat)(nm:aq)(a7:Int)(base f:Nat)(h:ay)(L j:Nat)(xs:dI)(w:ah)(t:Bool)(ao:Int->Prop)(o:Option (Tm (N+1)))(bG:L<=10000)(aU:f<w.heap.size)(bJ:base<=w.heap.size)(ar:Hid (ai w f 3 (af h L j)/\w.frozen? ⟨f,3,none⟩=false))(aD:Hid (w.ownsRow base 250 5 (af h L j) L xs))(bc:Hid ((Value.slice h L j).ownBlock≠some f))(aC:Hid (∀W,ap w W->au 238 #[aF f,aB ab ad al xa an xc] W λe w'=>∃y,e=aw (ax #[ae y,.bool t])/\Hid (ap W w'/\ao y)))(aE:Hid (∀W,ap w W->au 179 #[aF f,aB y0 y1 y2 ya yl yc] W (xV N o W))):au 228 #[aF f,.agg #[ae k,ae ab,ae ad,ag al,af xa an xc,ae y0,ae y1,ag y2,af ya yl yc,ag nm,ae a7]] w (PZ N base f h L j xs t ao o w):=by
 obtain⟨I,hit,a2,a3,a4⟩:=bT KX;have O:Hid (Tryz.prog.info? 250=some I/\I.zero=some (.agg #[ae 0,ae 0,ae 0,ag ⟨#[]⟩,af none 0 0])/\I.size=5/\I.bytes=64):=⟨hit,a2,a3,a4⟩;clear hit a2 a3 a4;have aI:Hid (∃R A,(R=w.alloc (.cells #[ae k,ae ab,ae ad,ag al,af xa an xc,ae y0,ae y1,ag y2,af ya yl yc,ag nm,ae a7] 268)/\A=w.heap.size)/\ap w R/\∀W,ap R W->ai W A 5 (ae y0)/\ai W A 6 (ae y1)/\ai W A 7 (ag y2)/\ai W A 8 (af ya yl yc)):=by
  refine⟨_,_,⟨rfl,rfl⟩,aW _ _,λW bj=>?_⟩;have c:=(bj.block w.heap.size (by simp)).trans (aL w _);exact⟨aj c 5,aj c 6,aj c 7,aj c 8⟩
 go_enter func228,ntmps228;go_wp2_with fail;obtain⟨R,A,⟨a5,a0⟩,aQ,aT⟩:=aI.out;rw[<-a5,<-a0];have S:=av aQ;have a9:=av aT;clear a5 a0 aQ aT aI;refine(aC _ S).mono ?_;rintro e bK ⟨y,rfl,J⟩;have C:=av (S.trans (J.1.mono S.size));have ba:=av J.2;obtain⟨bB,bC,bE,bF⟩:=a9 _ J.1;clear J aC;cases t
 ·go_wp2_with fail
  go_ret
  exact⟨rfl,λ_=>C,λc=>(by cases c)⟩
 ·go_wp2_with fail;refine(aE _ C).mono ?_;rintro e u ⟨a,rfl,B⟩;have D:=av (C.trans (B.1.mono C.size));cases o with
  | none=>
   simp only[nP];go_wp2_with fail
   go_ret
   exact⟨rfl,λ_=>D.alloc D.size _,λc=>(by cases c)⟩
  | some bL=>
   simp only[lJ];have aM:=av B.2.1;have bg:=av B.2.2.1;have bh:=av B.2.2.2;have bf:=av C.size;have aJ:Hid (∃d p,(d=u.alloc (.cells #[ae a.1.1,ae a.1.2.1,ag a.1.2.2,af a.2.1.1 a.2.2.length a.2.1.2] 54)/\p=u.heap.size)/\ap u d/\d.heap[p]?=some (.cells #[ae a.1.1,ae a.1.2.1,ag a.1.2.2,af a.2.1.1 a.2.2.length a.2.1.2] 54)/\d.heap.size=u.heap.size+1):=⟨_,_,⟨rfl,rfl⟩,aW _ _,aL _ _,by simp⟩;clear B aE;go_wp2_with fail;obtain⟨d,p,⟨a6,aa⟩,r⟩:=aJ.out;rw[<-a6,<-aa];have be:Hid (p=u.heap.size):=aa;replace r:=av r;clear a6 aa aJ;have M:=av (D.trans (r.1.mono D.size));obtain⟨l,aX⟩:∃l:Obj,l=.cells #[ae y,ae a.1.1,ae a.1.2.1,ag a.1.2.2,af a.2.1.1 a.2.2.length a.2.1.2] 250:=⟨_,rfl⟩;have U:Hid (∀W:ah,ap d W->ai W f 3 (af h L j)/\ai W p 0 (ae a.1.1)/\ai W p 1 (ae a.1.2.1)/\ai W p 2 (ag a.1.2.2)/\ai W p 3 (af a.2.1.1 a.2.2.length a.2.1.2)):=λW c=>by
    have Q:=(c.block p (aS.1 r.2.1).1).trans r.2.1;have Z:=M.trans (c.mono M.size);exact⟨(Z.cell (p:=⟨f,3,none⟩) aU).trans ar.1,aj Q 0,aj Q 1,aj Q 2,aj Q 3⟩
   have E:Hid (ap d (d.alloc l).drew):=(aW _ l).drew;have s:=U d.drew (aH _ _).drew;have X:=av (U _ E);have K:=av (M.trans (E.mono M.size));have aA:Hid ((d.alloc l).drew.ownsRow base 250 5 (af h L j) L xs):=bD aD (aR K λ_=>False) λ_ _ c=>c;have az:Hid ((d.alloc l).drew.heap[d.heap.size]?=some l):=aL d l;have F:Hid ((d.alloc l).drew.heap.size=d.heap.size+1):=(show _=_ by simp[World.drew]);have P:Hid (d.heap.size=u.heap.size+1/\w.heap.size<=u.heap.size):=⟨r.2.2,D.size⟩;have aN:Hid (In (d.alloc l).drew.heap.size (d.alloc l).drew (N+1) a):=(aM.below (r.1.trans (E.mono r.1.size))).mono (by have:=r.1.size;have:=E.size;omega);rw[aX]at E X K aA az F aN;clear aX l;obtain⟨bs,bw,bx,bz,bA⟩:=U d (aH _ _);refine wp_region_noPanic ?_;refine ki (λW=>ai W f 3 (af h L j)/\ai W p 0 (ae a.1.1)/\ai W p 1 (ae a.1.2.1)/\ai W p 2 (ag a.1.2.2)/\ai W p 3 (af a.2.1.1 a.2.2.length a.2.1.2)) 12 (by kernel_rfl) ?_
   try simp only[fN]
   refine bt (i:=0) (v:= ?_) rfl (by kernel_rfl) (by kernel_rfl) (by kernel_rfl) (by kernel_rfl) (λ_ _ _ c=>c) rfl ?_ s ?_;rotate_left
   ·intro w' g
    try dsimp only at g
    go_simp
    try with_reducible rfl
   try simp only[Act.put,cu]
   refine bt (i:=1) (v:= ?_) rfl (by kernel_rfl) (by kernel_rfl) (by kernel_rfl) (by kernel_rfl) (λ_ _ _ c=>c) rfl ?_ s ?_;rotate_left
   ·intro w' g
    try dsimp only at g
    go_simp
    try with_reducible rfl
   try simp only[Act.put]
   refine bt (i:=2) (v:= ?_) rfl (by kernel_rfl) (by kernel_rfl) (by kernel_rfl) (by kernel_rfl) (λ_ _ _ c=>c) rfl ?_ s ?_;rotate_left
   ·intro w' g
    try dsimp only at g
    go_simp
    try with_reducible rfl
   try simp only[Act.put]
   refine bt (i:=3) (v:= ?_) rfl (by kernel_rfl) (by kernel_rfl) (by kernel_rfl) (by kernel_rfl) (λ_ _ _ c=>c) rfl ?_ s ?_;rotate_left
   ·intro w' g
    try dsimp only at g
    go_simp
    try with_reducible rfl
   try simp only[Act.put]
   refine bt (i:=4) (v:= ?_) rfl (by kernel_rfl) (by kernel_rfl) (by kernel_rfl) (by kernel_rfl) (λ_ _ _ c=>c) rfl ?_ s ?_;rotate_left
   ·intro w' g
    try dsimp only at g
    go_simp
    try with_reducible rfl
   try simp only[Act.put]
   refine bt (i:=5) (v:= ?_) rfl (by kernel_rfl) (by kernel_rfl) (by kernel_rfl) (by kernel_rfl) (λ_ _ _ c=>c) rfl ?_ s ?_;rotate_left
   ·intro w' g
    try dsimp only at g
    go_simp
    try with_reducible rfl
   try simp only[Act.put]
   refine bt (i:=6) (v:= ?_) rfl (by kernel_rfl) (by kernel_rfl) (by kernel_rfl) (by kernel_rfl) (λ_ _ _ c=>c) rfl ?_ s ?_;rotate_left
   ·intro w' g
    try dsimp only at g
    go_simp
    try with_reducible rfl
   try simp only[Act.put]
   refine bt (i:=7) (v:= ?_) rfl (by kernel_rfl) (by kernel_rfl) (by kernel_rfl) (by kernel_rfl) (λ_ _ _ c=>c) rfl ?_ s ?_;rotate_left
   ·intro w' g
    try dsimp only at g
    go_simp
    try with_reducible rfl
   try simp only[Act.put]
   refine dx (i:=8) (by kernel_rfl) rfl rfl (λx m=>?_) (by decide)
   go_simp
   refine m _ _ (λ_=>X) (λbI=>?_);clear m x
   try simp only[Act.put,cu,dK,dJ]
   refine dx (i:=9) (by kernel_rfl) rfl rfl (λx m=>?_) (by decide);refine wp_append_lies _ _ _ 197 rfl base 250 I _ 5 64 underlying197 O.1 O.2.1 O.2.2.1 O.2.2.2 rfl (by decide) (af h L j) L xs rfl aA ⟨d.heap.size,0,none⟩ 1 1 (Ox y a) rfl rfl (World.news_of_block (cs:= #[ae y,ae a.1.1,ae a.1.2.1,ag a.1.2.2,af a.2.1.1 a.2.2.length a.2.1.2]) (t:=250) (fr:=(0,0)) az) (by simp[Ox,Value.oneCell']) (by decide) (by unfold maxLen;omega) (by omega) (by have:=F.out;have:=P.out;omega) _ rfl ?_;intro G bi q aZ z Y bk;have bb:Hid (bH (λn=>(Value.slice h L j).ownBlock=some n) w q):=bH.trans (aR K _) (ex z) λ_ _ e=>e;have a8:Hid ((Value.slice h L j).ownBlock=some G\/w.heap.size<=G):=by
    rcases Y with e|e
    ·exact ak e
    ·exact am (by have:=F.out;have:=P.out;omega)
   have bd:=av aZ;have V:Hid (∀b,(Value.slice h L j).ownBlock=some b->b<w.heap.size):=λb Z=>(aD.lt b Z).2;have aK:Hid (In q.heap.size q (N+1) a/\cG (λn=>w.heap.size<=n/\n≠G) (N+1) a):=by
    have aY:cG (λn=>w.heap.size<=n/\n<u.heap.size) (N+1) a:=(In.offB bg aM).mono λn H=>⟨aG bf H.1,H.2⟩;refine⟨aN.kee (ex z) (aY.mono λn H e=>?_),aY.mono λn H=>⟨H.1,λe=>?_⟩⟩
    ·have:=V n e;omega
    ·rcases Y with aO|aO
     ·have:=V G aO;omega
     ·have:=F.out;have:=P.out;omega
   have T:Hid ((ai q f 3 (af h L j)/\ai q p 0 (ae a.1.1)/\ai q p 1 (ae a.1.2.1)/\ai q p 2 (ag a.1.2.2)/\ai q p 3 (af a.2.1.1 a.2.2.length a.2.1.2))/\q.frozen? ⟨f,3,none⟩=false):=by
    have bM:=F.out;have bN:=P.out;have bO:=be.out;have bl:some p≠(Value.slice h L j).ownBlock:=λe=>by
     have:=V p e.symm;omega
    have a1:some f≠(Value.slice h L j).ownBlock:=λe=>bc e.symm;have k:=λbm=>z.cell_far ⟨p,bm,none⟩ (by show p<_;omega) bl;obtain⟨bn,bo,bp,bq,br⟩:=X;refine⟨⟨(z.cell_far ⟨f,3,none⟩ (by show f<_;omega) a1).trans bn,(k 0).trans bo,(k 1).trans bp,(k 2).trans bq,(k 3).trans br⟩,?_⟩;rw[z.frozen_far ⟨f,3,none⟩ (by show f<_;omega) a1];have aV:=ar.2;unfold World.frozen? at aV ⊢;rw[K.out.block f aU];exact aV
   clear aZ z Y bk;refine m _ _ (λ_=>T.1) (λaP=>?_);clear m x
   try simp only[Act.put,cu]
   refine dx (i:=10) (by kernel_rfl) rfl rfl (λx m=>?_) (by decide)
   go_simp
   refine m _ _ (λ_=>aP) (λ_=>?_);clear m x
   try simp only[Act.put,cu,dK,dJ]
   refine bt (i:=11) (v:= ?_) rfl (by kernel_rfl) (by kernel_rfl) (by kernel_rfl) (by kernel_rfl) (λ_ _ _ c=>c) rfl ?_ aP ?_;rotate_left
   ·intro w' g
    try dsimp only at g
    go_simp
    try with_reducible rfl
   try simp only[Act.put,cu]
   have bv:=T.2;have bu:=T.1.1;refine kh (by kernel_rfl) rfl rfl (by kernel_rfl) (λx m=>?_)
   go_simp
   refine m _ _ (NoPanic.normal ?_);clear m x
   try simp only[Act.put,cu,dK,dJ]
   go_wp2_with fail
   go_ret
   exact⟨rfl,λc=>(by cases c),λ_=>⟨y,a,G,bi,q,ba.out,bh.out,aK.out.1,aK.out.2,bd.out,bb.out,a8.out,rfl⟩⟩
theorem Io:(Tryz.prog.info? 247).map (λi=>(i.zero,i.size,i.bytes))=some (some (.agg #[ae 0,ag ⟨#[]⟩,ae 0,ae 0,ag ⟨#[]⟩,af none 0 0]),6,80):=by kernel_rfl
theorem dS{w:ah}{b o:Nat}{v:az}(j:Nat)(a:j≠o):(w.setCell ⟨b,o,none⟩ v).cell? ⟨b,j,none⟩=w.cell? ⟨b,j,none⟩:=by
 unfold World.cell? World.setCell;simp only[bS];cases h:w.heap[b]? with
 | none=>simp
 | some c=>cases c<;>simp[Ne.symm a]
theorem ic{w:ah}{b o j:Nat}{v:az}:(w.setCell ⟨b,o,none⟩ v).frozen? ⟨b,j,none⟩=w.frozen? ⟨b,j,none⟩:=by
 unfold World.frozen? World.setCell;simp only[bS];cases h:w.heap[b]? with
 | none=>simp
 | some a=>cases a<;>simp
def Py{N:Nat}(b:Int)(nm:aq)(a:Tm (N+1)):List az:=[ae b,ag nm,ae a.1.1,ae a.1.2.1,ag a.1.2.2,af a.2.1.1 a.2.2.length a.2.1.2]
def P0(N base g:Nat)(h:ay)(L i:Nat)(xs:dI)(t:Bool)(next:Int)(nm:aq)(l m:Nat)(o:Option (Tm (N+1)))(w:ah)(e:Ending)(w':ah):Prop:=
 e=aw (.bool (o.isSome && t))/\((o.isSome && t)=false->ap w w')/\
  ((o.isSome && t)=true->∃(f:Tm (N+1))(a c:Nat)(b j k:ah),aK (N+1) f (N+1) (o.getD (xx N))=true/\In b.heap.size b (N+1) f/\cG (λd=>w.heap.size<=d/\d≠a) (N+1) f/\b.ownsRow base 247 6 (af (some ⟨a,0,none⟩) (L+1) c) (L+1) (xs++Py next nm f)/\bH (λd=>(Value.slice h L i).ownBlock=some d) w b/\((Value.slice h L i).ownBlock=some a\/w.heap.size<=a)/\j=b.setCell ⟨g,4,none⟩ (af (some ⟨a,0,none⟩) (L+1) c)/\k=(dl j l (m*4) (ae 3) (ae next) (ag ⟨#[]⟩) (af none 0 0)).drew/\w'=k.setCell ⟨g,2,none⟩ (ae (next+1)))
theorem Fw(N:Nat)(k T U:Int)(V:aq)(xa:ay)(X xc:Nat)(y0 y1:Int)(y2:aq)(ya:ay)(yl yc:Nat)(nm:aq)(g:Nat)(base f:Nat)(r:ay)(L s:Nat)(xs:dI)(w:ah)(o:Option (Tm (N+1)))(d P:Nat)(next:Int)(H ab:Int)(ad:aq)(ai:ay)(an al:Nat)(cR:g<4)(cL:L<=10000)(aX:f<w.heap.size)(bb:d<w.heap.size)(bN:f≠d)(cM:base<=w.heap.size)(cP:0<=next)(cQ:next<=100000)(cx:nm.size<=2048)(K:Hid (w.cell? ⟨f,4,none⟩=some (af r L s)/\w.cell? ⟨f,0,none⟩=some (af (some ⟨d,0,none⟩) 4 P)/\w.cell? ⟨f,2,none⟩=some (ae next)/\(∀j,w.frozen? ⟨f,j,none⟩=false)/\∀j,w.frozen? ⟨d,j,none⟩=false))(br:Hid (w.ownsRow base 247 6 (af r L s) L xs))(a5:Hid ((Value.slice r L s).ownBlock≠some f/\(Value.slice r L s).ownBlock≠some d))(J:Hid (w.cell? ⟨d,g*4,none⟩=some (ae H)/\w.cell? ⟨d,g*4+1,none⟩=some (ae ab)/\w.cell? ⟨d,g*4+2,none⟩=some (ag ad)/\w.cell? ⟨d,g*4+3,none⟩=some (af ai an al)))(a2:Hid (∀W,au 234 #[aB H ab ad ai an al] W λe w'=>e=aw (.bool (!(H==6)))/\ap W w'))(bs:Hid (∀W,ap w W->au 179 #[aF f,aB y0 y1 y2 ya yl yc] W (xV N o W))):au 229 #[aF f,.agg #[ae k,ae T,ae U,ag V,af xa X xc,ae y0,ae y1,ag y2,af ya yl yc,ag nm,ae g]] w (P0 N base f r L s xs (H==6) next nm d g o w):=by
 obtain⟨aK,hit,bW,bX,bY⟩:=bT Io;have aO:Hid (Tryz.prog.info? 247=some aK/\aK.zero=some (.agg #[ae 0,ag ⟨#[]⟩,ae 0,ae 0,ag ⟨#[]⟩,af none 0 0])/\aK.size=6/\aK.bytes=80):=⟨hit,bW,bX,bY⟩;clear hit bW bX bY;obtain⟨t,bV⟩:∃t,t=(H==6):=⟨_,rfl⟩;rw[<-bV]at a2 ⊢;clear bV;have bu:Hid (∃aM h,(aM=w.alloc (.cells #[ae k,ae T,ae U,ag V,af xa X xc,ae y0,ae y1,ag y2,af ya yl yc,ag nm,ae g] 268)/\h=w.heap.size)/\ap w aM/\aM.heap[h]?=some (.cells #[ae k,ae T,ae U,ag V,af xa X xc,ae y0,ae y1,ag y2,af ya yl yc,ag nm,ae g] 268)):=⟨_,_,⟨rfl,rfl⟩,aW _ _,aL w _⟩;go_enter func229,ntmps229;go_wp2_with fail;obtain⟨aM,h,⟨bZ,aY⟩,bI,bc⟩:=bu.out;rw[<-bZ,<-aY];have ar:=av bI;have bj:=av bc;have aC:Hid (h<aM.heap.size/\w.heap.size<=h):=⟨(aS.1 bc).1,by omega⟩;clear bZ aY bI bc bu;refine(bs _ ar).mono ?_;rintro e E ⟨a,rfl,O⟩;have ax:=av (ar.trans (O.1.mono ar.size));have b7:Hid (E.heap[h]?=some (.cells #[ae k,ae T,ae U,ag V,af xa X xc,ae y0,ae y1,ag y2,af ya yl yc,ag nm,ae g] 268)):=(O.1.block h aC.1).trans bj;have bq:Hid (h<E.heap.size):=bi aC.1 O.1.size;have bB:=av O.2.1;have cd:=av O.2.2.1;have ce:=av O.2.2.2;have cc:=av ar.size;clear O bs ar bj;have bv:Hid (∃z p,(z=E.alloc (.cells #[ae a.1.1,ae a.1.2.1,ag a.1.2.2,af a.2.1.1 a.2.2.length a.2.1.2] 54)/\p=E.heap.size)/\ap E z/\z.heap[p]?=some (.cells #[ae a.1.1,ae a.1.2.1,ag a.1.2.2,af a.2.1.1 a.2.2.length a.2.1.2] 54)/\z.heap.size=E.heap.size+1):=⟨_,_,⟨rfl,rfl⟩,aW _ _,aL _ _,by simp⟩;cases o with
 | none=>
  simp only[nP];go_wp2_with fail;go_region
  all_goals
   go_wp2_with fail
   go_ret
   exact⟨rfl,λ_=>(ax.alloc ax.size _).drew,λc=>(by cases c)⟩
 | some cW=>
  simp only[lJ];go_wp2_with fail;obtain⟨z,p,⟨b0,M⟩,D⟩:=bv.out;rw[<-b0,<-M];have b8:Hid (p=E.heap.size):=M;replace D:=av D;clear b0 M bv;have I:=av (ax.trans (D.1.mono ax.size));have a3:Hid (∀W:ah,ap z W->W.heap[h]?=some (.cells #[ae k,ae T,ae U,ag V,af xa X xc,ae y0,ae y1,ag y2,af ya yl yc,ag nm,ae g] 268)/\W.heap[p]?=some (.cells #[ae a.1.1,ae a.1.2.1,ag a.1.2.2,af a.2.1.1 a.2.2.length a.2.1.2] 54)):=λW c=>⟨(c.block h (by have:=bq.out;have:=D.2.2;omega)).trans ((D.1.block h bq).trans b7),(c.block p (aS.1 D.2.1).1).trans D.2.1⟩;have aA:Hid (∀W:ah,ap z W->(W.cell? ⟨f,0,none⟩=some (af (some ⟨d,0,none⟩) 4 P)/\W.cell? ⟨h,10,none⟩=some (ae g))/\W.cell? ⟨d,g*4,none⟩=some (ae H)/\W.cell? ⟨d,g*4+1,none⟩=some (ae ab)/\W.cell? ⟨d,g*4+2,none⟩=some (ag ad)/\W.cell? ⟨d,g*4+3,none⟩=some (af ai an al)):=λW c=>by
   have R:=I.trans (c.mono I.size);have aV:=λj=>R.cell (p:=⟨d,j,none⟩) bb;exact⟨⟨(R.cell (p:=⟨f,0,none⟩) aX).trans K.2.1,aj (a3 W c).1 10⟩,(aV _).trans J.1,(aV _).trans J.2.1,(aV _).trans J.2.2.1,(aV _).trans J.2.2.2⟩
  obtain⟨⟨cm,cn⟩,co,cp,cq,cr⟩:=aA.out z (aH _ _);have Z:Hid (ap z z.drew):=(aH _ _).drew;have cU:(0:Int)<=(g:Int):=by omega
  have cV:(g:Int)<4:=by omega
  have bn:=av (a2 z.drew);clear a2;cases t
  ·go_region_held3 (λW=>(W.cell? ⟨f,0,none⟩=some (af (some ⟨d,0,none⟩) 4 P)/\W.cell? ⟨h,10,none⟩=some (ae g))/\W.cell? ⟨d,g*4,none⟩=some (ae H)/\W.cell? ⟨d,g*4+1,none⟩=some (ae ab)/\W.cell? ⟨d,g*4+2,none⟩=some (ag ad)/\W.cell? ⟨d,g*4+3,none⟩=some (af ai an al)) (first|(go_keep;done)|exact aA _ Z|exact aA _ A) ((first
     | (go_at_call 234;refine bn.mono ?_;rintro e S ⟨rfl,aE⟩;have A:=av (Z.trans (aE.mono Z.size));clear aE)))
   go_wp2_with fail
   go_ret
   exact⟨rfl,λ_=>I.trans (A.mono I.size),λc=>(by cases c)⟩
  ·go_region_held3 (λW=>(W.cell? ⟨f,0,none⟩=some (af (some ⟨d,0,none⟩) 4 P)/\W.cell? ⟨h,10,none⟩=some (ae g))/\W.cell? ⟨d,g*4,none⟩=some (ae H)/\W.cell? ⟨d,g*4+1,none⟩=some (ae ab)/\W.cell? ⟨d,g*4+2,none⟩=some (ag ad)/\W.cell? ⟨d,g*4+3,none⟩=some (af ai an al)) (first|(go_keep;done)|exact aA _ Z|exact aA _ A) ((first
     | (go_at_call 234;refine bn.mono ?_;rintro e S ⟨rfl,aE⟩;have A:=av (Z.trans (aE.mono Z.size));clear aE)))
   clear cm cn co cp cq cr;go_wp2_with fail;have bg:=av (I.trans (A.mono I.size));have aP:Hid (∀W:ah,ap S W->W.cell? ⟨f,4,none⟩=some (af r L s)/\W.cell? ⟨f,2,none⟩=some (ae next)/\W.cell? ⟨h,9,none⟩=some (ag nm)/\W.cell? ⟨p,0,none⟩=some (ae a.1.1)/\W.cell? ⟨p,1,none⟩=some (ae a.1.2.1)/\W.cell? ⟨p,2,none⟩=some (ag a.1.2.2)/\W.cell? ⟨p,3,none⟩=some (af a.2.1.1 a.2.2.length a.2.1.2)):=λW c=>by
    have bG:=A.trans (c.mono A.size);have R:=I.trans (bG.mono I.size);obtain⟨aY,M⟩:=a3.out W bG;exact⟨(R.cell (p:=⟨f,4,none⟩) aX).trans K.1,(R.cell (p:=⟨f,2,none⟩) aX).trans K.2.2.1,aj aY 9,aj M 0,aj M 1,aj M 2,aj M 3⟩
   have x:=aP S.drew (aH _ _).drew;have bm:Hid (ap S S.drew):=(aH _ _).drew;obtain⟨cf,d3,b3,ci,cj,ck,cl⟩:=aP.out S (aH _ _);have b9:=av (ew nm S.drew cx);refine wp_region_noPanic ?_;refine ki (λW=>W.cell? ⟨f,4,none⟩=some (af r L s)/\W.cell? ⟨f,2,none⟩=some (ae next)/\W.cell? ⟨h,9,none⟩=some (ag nm)/\W.cell? ⟨p,0,none⟩=some (ae a.1.1)/\W.cell? ⟨p,1,none⟩=some (ae a.1.2.1)/\W.cell? ⟨p,2,none⟩=some (ag a.1.2.2)/\W.cell? ⟨p,3,none⟩=some (af a.2.1.1 a.2.2.length a.2.1.2)) 18 (by kernel_rfl) ?_
   try simp only[fN]
   refine bt (i:=0) (v:= ?_) rfl (by kernel_rfl) (by kernel_rfl) (by kernel_rfl) (by kernel_rfl) (λ_ _ _ c=>c) rfl ?_ x ?_;rotate_left
   ·intro w' l
    try dsimp only at l
    go_simp
    try with_reducible rfl
   try simp only[Act.put,cu]
   refine bt (i:=1) (v:= ?_) rfl (by kernel_rfl) (by kernel_rfl) (by kernel_rfl) (by kernel_rfl) (λ_ _ _ c=>c) rfl ?_ x ?_;rotate_left
   ·intro w' l
    try dsimp only at l
    go_simp
    try with_reducible rfl
   try simp only[Act.put]
   refine bt (i:=2) (v:= ?_) rfl (by kernel_rfl) (by kernel_rfl) (by kernel_rfl) (by kernel_rfl) (λ_ _ _ c=>c) rfl ?_ x ?_;rotate_left
   ·intro w' l
    try dsimp only at l
    go_simp
    try with_reducible rfl
   try simp only[Act.put]
   refine bt (i:=3) (v:= ?_) rfl (by kernel_rfl) (by kernel_rfl) (by kernel_rfl) (by kernel_rfl) (λ_ _ _ c=>c) rfl ?_ x ?_;rotate_left
   ·intro w' l
    try dsimp only at l
    go_simp
    try with_reducible rfl
   try simp only[Act.put]
   refine bt (i:=4) (v:= ?_) rfl (by kernel_rfl) (by kernel_rfl) (by kernel_rfl) (by kernel_rfl) (λ_ _ _ c=>c) rfl ?_ x ?_;rotate_left
   ·intro w' l
    try dsimp only at l
    go_simp
    try with_reducible rfl
   try simp only[Act.put]
   refine bt (i:=5) (v:= ?_) rfl (by kernel_rfl) (by kernel_rfl) (by kernel_rfl) (by kernel_rfl) (λ_ _ _ c=>c) rfl ?_ x ?_;rotate_left
   ·intro w' l
    try dsimp only at l
    go_simp
    try with_reducible rfl
   try simp only[Act.put]
   refine bt (i:=6) (v:= ?_) rfl (by kernel_rfl) (by kernel_rfl) (by kernel_rfl) (by kernel_rfl) (λ_ _ _ c=>c) rfl ?_ x ?_;rotate_left
   ·intro w' l
    try dsimp only at l
    go_simp
    try with_reducible rfl
   try simp only[Act.put]
   refine bt (i:=7) (v:= ?_) rfl (by kernel_rfl) (by kernel_rfl) (by kernel_rfl) (by kernel_rfl) (λ_ _ _ c=>c) rfl ?_ x ?_;rotate_left
   ·intro w' l
    try dsimp only at l
    go_simp
    try with_reducible rfl
   try simp only[Act.put]
   refine bt (i:=8) (v:= ?_) rfl (by kernel_rfl) (by kernel_rfl) (by kernel_rfl) (by kernel_rfl) (λ_ _ _ c=>c) rfl ?_ x ?_;rotate_left
   ·intro w' l
    try dsimp only at l
    go_simp
    try with_reducible rfl
   try simp only[Act.put]
   refine bt (i:=9) (v:= ?_) rfl (by kernel_rfl) (by kernel_rfl) (by kernel_rfl) (by kernel_rfl) (λ_ _ _ c=>c) rfl ?_ x ?_;rotate_left
   ·intro w' l
    try dsimp only at l
    go_simp
    try with_reducible rfl
   try simp only[Act.put]
   refine bt (i:=10) (v:= ?_) rfl (by kernel_rfl) (by kernel_rfl) (by kernel_rfl) (by kernel_rfl) (λ_ _ _ c=>c) rfl ?_ x ?_;rotate_left
   ·intro w' l
    try dsimp only at l
    go_simp
    try with_reducible rfl
   try simp only[Act.put]
   refine bt (i:=12) (v:= ?_) rfl (by kernel_rfl) (by kernel_rfl) (by kernel_rfl) (by kernel_rfl) (λ_ _ _ c=>c) rfl ?_ x ?_;rotate_left
   ·intro w' l
    try dsimp only at l
    go_simp
    try with_reducible rfl
   try simp only[Act.put]
   refine dx (i:=11) (by kernel_rfl) rfl rfl (λG q=>?_) (by decide)
   go_simp
   refine b9.mono ?_;rintro e u ⟨rfl,bJ⟩;have F:=av (bm.trans (bJ.mono bm.size));have a9:=aP u F;refine q _ _ (λ_=>a9) (λ_=>?_);clear q G bJ
   try simp only[Act.put,cu,dK,dJ]
   have bh:=av (bg.trans (F.mono bg.size));obtain⟨y,bQ⟩:∃y:Obj,y=.cells #[ae next,ag nm,ae a.1.1,ae a.1.2.1,ag a.1.2.2,af a.2.1.1 a.2.2.length a.2.1.2] 247:=⟨_,rfl⟩;have az:Hid (ap u (u.alloc y)):=aW _ y;have a6:=av (aP _ (F.trans (az.mono F.size)));have a0:=av (bh.trans (az.mono bh.size));have bp:Hid ((u.alloc y).ownsRow base 247 6 (af r L s) L xs):=bD br (aR a0 λ_=>False) λ_ _ c=>c;have bo:Hid ((u.alloc y).heap[u.heap.size]?=some y):=aL u y;have aa:Hid ((u.alloc y).heap.size=u.heap.size+1):=(show _=_ by simp);have aD:Hid (z.heap.size=E.heap.size+1/\w.heap.size<=E.heap.size/\z.heap.size<=u.heap.size):=⟨D.2.2,ax.size,aG A.size F.size⟩;have bC:Hid (In (u.alloc y).heap.size (u.alloc y) (N+1) a):=(bB.below (D.1.trans ((A.trans ((F.trans (az.mono F.size)).mono A.size)).mono D.1.size))).mono (by have:=aa.out;have:=aD.out;omega);have a4:Hid ((u.alloc y).heap[h]?=some (.cells #[ae k,ae T,ae U,ag V,af xa X xc,ae y0,ae y1,ag y2,af ya yl yc,ag nm,ae g] 268)):=(a3 _ (A.trans ((F.trans (az.mono F.size)).mono A.size))).1;rw[bQ]at az a6 a0 bp bo aa bC a4;clear bQ y;refine bt (i:=13) (v:= ?_) rfl (by kernel_rfl) (by kernel_rfl) (by kernel_rfl) (by kernel_rfl) (λ_ _ _ c=>c) rfl ?_ a9 ?_;rotate_left
   ·intro w' l
    try dsimp only at l
    go_simp
    try with_reducible rfl
   try simp only[Act.put]
   refine dx (i:=14) (by kernel_rfl) rfl rfl (λG q=>?_) (by decide)
   go_simp
   refine q _ _ (λ_=>a6) (λct=>?_);clear q G
   try simp only[Act.put,cu,dK,dJ]
   refine dx (i:=15) (by kernel_rfl) rfl rfl (λG q=>?_) (by decide);refine wp_append_lies _ _ _ 198 rfl base 247 aK _ 6 80 underlying198 aO.1 aO.2.1 aO.2.2.1 aO.2.2.2 rfl (by decide) (af r L s) L xs rfl bp ⟨u.heap.size,0,none⟩ 1 1 (Py next nm a) rfl rfl (World.news_of_block (cs:= #[ae next,ag nm,ae a.1.1,ae a.1.2.1,ag a.1.2.2,af a.2.1.1 a.2.2.length a.2.1.2]) (t:=247) (fr:=(0,0)) bo) (by simp[Py,Value.oneCell']) (by decide) (by unfold maxLen;omega) (by omega) (by have:=aa.out;have:=aD.out;omega) _ rfl ?_;intro Q a7 m bS ao ba cw;have aQ:Hid (bH (λC=>(Value.slice r L s).ownBlock=some C) w m):=bH.trans (aR a0 _) (ex ao) λ_ _ e=>e;have b4:Hid ((Value.slice r L s).ownBlock=some Q\/w.heap.size<=Q):=by
    rcases ba with e|e
    ·exact ak e
    ·exact am (by have:=aa.out;have:=aD.out;omega)
   have b6:=av bS;have aT:Hid (∀b,(Value.slice r L s).ownBlock=some b->b<w.heap.size):=λb R=>(br.lt b R).2;have bA:Hid (In m.heap.size m (N+1) a/\cG (λC=>w.heap.size<=C/\C≠Q) (N+1) a):=by
    have bR:cG (λC=>w.heap.size<=C/\C<E.heap.size) (N+1) a:=(In.offB cd bB).mono λC aJ=>⟨aG cc aJ.1,aJ.2⟩;refine⟨bC.kee (ex ao) (bR.mono λC aJ e=>?_),bR.mono λC aJ=>⟨aJ.1,λe=>?_⟩⟩
    ·have:=aT C e;omega
    ·rcases ba with bE|bE
     ·have:=aT Q bE;omega
     ·have:=aa.out;have:=aD.out;omega
   have Y:Hid (m.heap[f]?=w.heap[f]? /\m.heap[d]?=w.heap[d]? /\m.heap[h]?=some (.cells #[ae k,ae T,ae U,ag V,af xa X xc,ae y0,ae y1,ag y2,af ya yl yc,ag nm,ae g] 268)):=by
    refine⟨aQ.block f aX a5.1,aQ.block d bb a5.2,(ao.block h (aS.1 a4).1 λe=>?_).trans a4⟩;have:=aT h e.symm;have:=aC.2;omega
   have bk:Hid (m.cell? ⟨f,4,none⟩=some (af r L s)/\m.cell? ⟨f,2,none⟩=some (ae next)/\m.cell? ⟨h,9,none⟩=some (ag nm)/\m.cell? ⟨p,0,none⟩=some (ae a.1.1)/\m.cell? ⟨p,1,none⟩=some (ae a.1.2.1)/\m.cell? ⟨p,2,none⟩=some (ag a.1.2.2)/\m.cell? ⟨p,3,none⟩=some (af a.2.1.1 a.2.2.length a.2.1.2)):=by
    have cX:=aa.out;have cY:=aD.out;have cZ:=b8.out;have cy:some p≠(Value.slice r L s).ownBlock:=λe=>by
     have:=aT p e.symm;omega
    have k:=λj=>ao.cell_far ⟨p,j,none⟩ (by show p<_;omega) cy;obtain⟨cE,cF,cT,cH,cI,cJ,cK⟩:=a6;have bM:=λj=>ao.cell_far ⟨f,j,none⟩ (by show f<_;omega) λe=>a5.1 e.symm;exact⟨(bM 4).trans cE,(bM 2).trans cF,aj Y.2.2 9,(k 0).trans cH,(k 1).trans cI,(k 2).trans cJ,(k 3).trans cK⟩
   clear bS ao ba cw;refine q _ _ (λ_=>bk) (λa8=>?_);clear q G
   try simp only[Act.put,cu]
   refine dx (i:=16) (by kernel_rfl) rfl rfl (λG q=>?_) (by decide)
   go_simp
   refine q _ _ (λ_=>a8) (λ_=>?_);clear q G
   try simp only[Act.put,cu,dK,dJ]
   refine bt (i:=17) (v:= ?_) rfl (by kernel_rfl) (by kernel_rfl) (by kernel_rfl) (by kernel_rfl) (λ_ _ _ c=>c) rfl ?_ a8 ?_;rotate_left
   ·intro w' l
    try dsimp only at l
    go_simp
    try with_reducible rfl
   try simp only[Act.put,cu]
   have ch:m.frozen? ⟨f,4,none⟩=false:=by
    have B:=K.2.2.2.1 4;unfold World.frozen? at B ⊢;rw[Y.out.1];exact B
   have cg:=bk.1;refine kh (by kernel_rfl) rfl rfl (by kernel_rfl) (λG q=>?_)
   go_simp
   refine q _ _ (NoPanic.normal ?_);clear q G
   try simp only[Act.put,cu,dK,dJ]
   have bU:h≠f:=by have:=aC.2;omega
   have cz:h≠d:=by have:=aC.2;omega
   have cN:f≠h:=λe=>bU e.symm;have cO:d≠h:=λe=>cz e.symm;have bP:d≠f:=λe=>bN e.symm;have bl:Hid (∀j,m.cell? ⟨d,j,none⟩=w.cell? ⟨d,j,none⟩/\m.frozen? ⟨d,j,none⟩=false):=λj=>by
    have B:=K.2.2.2.2 j;unfold World.frozen? at B ⊢;unfold World.cell?;rw[Y.out.2.1];exact⟨rfl,B⟩
   have a1:Hid (∀j,m.cell? ⟨f,j,none⟩=w.cell? ⟨f,j,none⟩/\m.frozen? ⟨f,j,none⟩=false):=λj=>by
    have B:=K.2.2.2.1 j;unfold World.frozen? at B ⊢;unfold World.cell?;rw[Y.out.1];exact⟨rfl,B⟩
   have bw:Hid (∃n,n=m.setCell ⟨f,4,none⟩ (af (some ⟨Q,0,none⟩) (L+1) a7)/\(n.cell? ⟨f,0,none⟩=some (af (some ⟨d,0,none⟩) 4 P)/\n.cell? ⟨h,10,none⟩=some (ae g)/\n.cell? ⟨f,2,none⟩=some (ae next))/\(n.cell? ⟨d,g*4,none⟩=some (ae H)/\n.cell? ⟨d,g*4+1,none⟩=some (ae ab)/\n.cell? ⟨d,g*4+2,none⟩=some (ag ad)/\n.cell? ⟨d,g*4+3,none⟩=some (af ai an al))/\(∀j,n.frozen? ⟨d,j,none⟩=false)/\n.frozen? ⟨f,2,none⟩=false):=by
    have bd:=bO m f 4 (af (some ⟨Q,0,none⟩) (L+1) a7);have bK:d<m.heap.size:=bi bb aQ.size;have cv:=bd.block d bK bP;have aU:=λj=>((bd.cell j bK bP).trans (bl j).1);refine⟨_,rfl,⟨(dS 0 (by decide)).trans ((a1 0).1.trans K.2.1),(bd.cell 10 (aS.1 Y.2.2).1 bU).trans (aj Y.2.2 10),(dS 2 (by decide)).trans ((a1 2).1.trans K.2.2.1)⟩,⟨(aU _).trans J.1,(aU _).trans J.2.1,(aU _).trans J.2.2.1,(aU _).trans J.2.2.2⟩,λj=>?_,?_⟩
    ·have B:=(bl j).2;unfold World.frozen? at B ⊢;rw[cv];exact B
    ·rw[ic];exact(a1 2).2
   go_wp2_with fail;obtain⟨n,be,⟨b1,b2,bf⟩,⟨cA,cB,cC,cD⟩,aI,bF⟩:=bw.out;rw[<-be];have ca:=av be;have f0:=aI (g*4);have f1:=aI (g*4+1);have f2:=aI (g*4+2);have f3:=aI (g*4+3);clear be bw aI x a9 ct a8 cf d3 b3 ci cj ck cl ch cg;have b5:Hid (n.drew.cell? ⟨f,0,none⟩=some (af (some ⟨d,0,none⟩) 4 P)/\n.drew.cell? ⟨h,10,none⟩=some (ae g)/\n.drew.cell? ⟨f,2,none⟩=some (ae next)):=⟨b1,b2,bf⟩;go_region_held3 (λW=>W.cell? ⟨f,0,none⟩=some (af (some ⟨d,0,none⟩) 4 P)/\W.cell? ⟨h,10,none⟩=some (ae g)/\W.cell? ⟨f,2,none⟩=some (ae next)) (first|exact b5|(go_keep;done)) (fail);have bx:Hid (∃aN,aN=(dl n d (g*4) (ae 3) (ae next) (ag ⟨#[]⟩) (af none 0 0)).drew/\aN.cell? ⟨f,2,none⟩=some (ae next)/\aN.frozen? ⟨f,2,none⟩=false):=by
    have bL:(dl n d (g*4) (ae 3) (ae next) (ag ⟨#[]⟩) (af none 0 0)).drew.heap[f]?=n.heap[f]? :=bz (w:=n) (o:=g*4) bN (ae 3) (ae next) (ag ⟨#[]⟩) (af none 0 0);refine⟨_,rfl,?_,?_⟩
    ·have c:=bf;unfold World.cell? at c ⊢;rw[bL];exact c
    ·have c:=bF;unfold World.frozen? at c ⊢;rw[bL];exact c
   obtain⟨aN,aZ,cS,b3⟩:=bx.out;have cb:=av aZ;unfold dl at aZ;rw[<-aZ];clear aZ bx b1 b2 bf cA cB cC cD f0 f1 f2 f3 bF;go_wp2_with fail
   go_ret
   exact⟨rfl,λc=>(by cases c),λ_=>⟨a,Q,a7,m,n,aN,ce.out,bA.out.1,bA.out.2,b6.out,aQ.out,b4.out,ca.out,cb.out,rfl⟩⟩
theorem Ly(k h i:Int)(j:aq)(xa:ay)(l xc:Nat)(y0 y1:Int)(y2:aq)(ya:ay)(yl yc:Nat)(nm:aq)(g:Int)(c:Nat)(w:ah)(R:Bool->bF)(D:c<w.heap.size)(B:Hid (∃A,ai w c 6 (.bool A)/\w.frozen? ⟨c,6,none⟩=false))(m:Hid (k=1->∀W,ap w W->au 228 #[aF c,.agg #[ae k,ae h,ae i,ag j,af xa l xc,ae y0,ae y1,ag y2,af ya yl yc,ag nm,ae g]] W λe w'=>∃t,e=aw (.bool t)/\Hid (R t w')))(n:Hid (k=2->∀W,ap w W->au 229 #[aF c,.agg #[ae k,ae h,ae i,ag j,af xa l xc,ae y0,ae y1,ag y2,af ya yl yc,ag nm,ae g]] W λe w'=>∃t,e=aw (.bool t)/\Hid (R t w')))(o:Hid (k=3->∀W,ap w W->au 230 #[aF c,.agg #[ae k,ae h,ae i,ag j,af xa l xc,ae y0,ae y1,ag y2,af ya yl yc,ag nm,ae g]] W λe w'=>∃t,e=aw (.bool t)/\Hid (R t w')))(q:Hid (k≠1->k≠2->k≠3->∀W,ap w W->R true (W.setCell ⟨c,6,none⟩ (.bool true)))):au 204 #[aF c,.agg #[ae k,ae h,ae i,ag j,af xa l xc,ae y0,ae y1,ag y2,af ya yl yc,ag nm,ae g]] w λe w'=>∃t,e=aw (.bool t)/\Hid (R t w'):=by
 have C:Hid (∃a b,(a=w.alloc (.cells #[ae k,ae h,ae i,ag j,af xa l xc,ae y0,ae y1,ag y2,af ya yl yc,ag nm,ae g] 268)/\b=w.heap.size)/\ap w a/\(ai a b 0 (ae k)/\ai a b 1 (ae h)/\ai a b 2 (ae i)/\ai a b 3 (ag j)/\ai a b 4 (af xa l xc)/\ai a b 5 (ae y0)/\ai a b 6 (ae y1)/\ai a b 7 (ag y2)/\ai a b 8 (af ya yl yc)/\ai a b 9 (ag nm)/\ai a b 10 (ae g))):=by
  have d:=aL w (.cells #[ae k,ae h,ae i,ag j,af xa l xc,ae y0,ae y1,ag y2,af ya yl yc,ag nm,ae g] 268);exact⟨_,_,⟨rfl,rfl⟩,aW _ _,aj d 0,aj d 1,aj d 2,aj d 3,aj d 4,aj d 5,aj d 6,aj d 7,aj d 8,aj d 9,aj d 10⟩
 go_enter func204,ntmps204;obtain⟨A,F,z⟩:=B.out;go_upto_region 1 with fail;obtain⟨a,b,⟨G,E⟩,y,M,N,P,Q,S,T,U,V,X,Y,O⟩:=C.out;rw[<-G,<-E];have s:=av y;have I:Hid (ai a c 6 (.bool A)/\a.frozen? ⟨c,6,none⟩=false):=by
  refine⟨(y.cell (p:=⟨c,6,none⟩) D).trans F,?_⟩;unfold World.frozen? at z ⊢;rw[y.block c D];exact z
 clear G E y C F z B;by_cases u:k=1
 ·have r:=av (m u a s);clear m n o q;subst u;go_wp2_with fail;refine r.mono ?_;rintro e H ⟨t,rfl,f⟩;go_wp2_with fail
  go_ret
  exact⟨t,rfl,f⟩
 ·by_cases v:k=2
  ·have r:=av (n v a s);clear m n o q;subst v;go_wp2_with fail;refine r.mono ?_;rintro e H ⟨t,rfl,f⟩;go_wp2_with fail
   go_ret
   exact⟨t,rfl,f⟩
  ·by_cases x:k=3
   ·have r:=av (o x a s);clear m n o q;subst x;go_wp2_with fail;refine r.mono ?_;rintro e H ⟨t,rfl,f⟩;go_wp2_with fail
    go_ret
    exact⟨t,rfl,f⟩
   ·have f:=av (q u v x a s);obtain⟨Z,aa⟩:=I;have J:¬(1:Int)=k:=λe=>u e.symm;have K:¬(2:Int)=k:=λe=>v e.symm;have L:¬(3:Int)=k:=λe=>x e.symm;clear m n o q;go_wp2_with fail
    go_ret
    exact⟨true,rfl,f⟩
def PJ{n:Nat}(a:Ac (n+1)):az:=.agg #[ae a.1,ae a.2.1.1.1.1,ae a.2.1.1.1.2.1,ag a.2.1.1.1.2.2,af a.2.1.1.2.1.1 a.2.1.1.2.2.length a.2.1.1.2.1.2,ae a.2.1.2.1.1,ae a.2.1.2.1.2.1,ag a.2.1.2.1.2.2,af a.2.1.2.2.1.1 a.2.1.2.2.2.length a.2.1.2.2.1.2,ag a.2.2.1,ae a.2.2.2]
theorem Kb(l:List (Ac (n+1)))(s:ay)(L C r:Nat)(w:ah)(S:Nat->bF)(k:bF)(D:L<=1000000)(z:Hid (l.length=L))(x:Hid (∀(i:Nat)(a:Ac (n+1)) W,l[i]?=some a->S i W->∃b o,s=some ⟨b,o,none⟩/\∀(j:Nat)(u:az),(gZ (n+1) a)[j]?=some u->ai W b (o+i*11+j) u))(HB:Hid (∀i W q,S i W->ap W q->S i q))(A:Hid (∀(i:Nat)(a:Ac (n+1)) W,l[i]?=some a->S i W->au 204 #[aF r,PJ a] W λe w'=>∃t,e=aw (.bool t)/\Hid ((t=true->S (i+1) w')/\(t=false->k w'))))(v:Hid (S 0 w)):au 178 #[aF r,af s L C] w λe w'=>∃t,e=aw (.bool t)/\Hid ((t=true->S L w')/\(t=false->k w')):=by
 go_enter func178,ntmps178;go_wp2_with fail;go_loopw [9] (λi wr=>∃j:Nat,j<=L/\i=ae j/\Hid (S j wr)) (λi _=>L-(intOf i).toNat)
 case atStart=>exact⟨0,aN _,rfl,v⟩
 case round=>
  obtain⟨j,E,rfl,g⟩:=hrel;by_cases B:j<L
  ·obtain⟨a,h⟩:∃a,l[j]?=some a:=⟨l[j]'(by rw[z.out];exact B),aV _⟩;obtain⟨b,o,rfl,c⟩:=x j a wr h g;have I:ai wr b (o+j*11) (ae a.1):=c 0 _ rfl;have J:=c 1 _ rfl;have M:=c 2 _ rfl;have N:=c 3 _ rfl;have O:=c 4 _ rfl;have P:=c 5 _ rfl;have Q:=c 6 _ rfl;have R:=c 7 _ rfl;have T:=c 8 _ rfl;have U:=c 9 _ rfl;have K:=c 10 _ rfl;have F:(0:Int)<=(j:Int):=by omega
   have G:(j:Int)<(L:Int):=by omega
   have m:=av λW (d:ap wr W)=>A j a W h (HB _ _ _ g d);unfold PJ at m;have y:Hid (∀o:Obj,ap wr (wr.alloc o)):=λo=>aW _ o;clear c h;go_wp2_with fail;refine(m _ (y _)).mono ?_;rintro e H ⟨t,rfl,p⟩;cases t
   ·have f:=av (p.2 rfl);go_wp2_with fail
    go_ret
    exact⟨false,rfl,λd=>(by cases d),λ_=>f.out⟩
   ·have f:=av (p.1 rfl);go_wp2_with fail;go_roundw
    case rel=>exact⟨j+1,by omega,by go_num,f⟩
    case measure=>simp[intOf];omega
  ·obtain rfl:j=L:=by omega
   go_wp2_with fail
   go_ret
   exact⟨true,rfl,λ_=>g,λd=>(by cases d)⟩
theorem Cg(N:Nat)(s0 s1:Int)(X:aq)(sa:ay)(sl sc:Nat)(P Q:Int)(R:aq)(ma:ay)(U T:Nat)(l:ay)(m ac:Nat)(o p:Int)(r:aq)(s:ay)(nl u:Nat)(V n:Nat)(w:ah)(S:bF)(A:Bool->Tm (N+1)->bF)(c:Int->bF)(E:Hid (∀W,ap w W->au 178 #[aF n,af l m ac] W λe w'=>∃t,e=aw (.bool t)/\Hid ((∀q a,w.heap.size<=q->W.heap[q]?=some a->w'.heap[q]?=some a)/\(t=true->S w')/\(t=false->c 2 w'))))(G:Hid (∀W,S W->au 179 #[aF n,aB o p r s nl u] W λe w'=>∃(y:Tm (N+1))(t:Bool),e=aw (ax #[aB y.1.1 y.1.2.1 y.1.2.2 y.2.1.1 y.2.2.length y.2.1.2,.bool t])/\Hid (A t y w')))(F:Hid (∀y d g,A false y d->ap d g->c 2 g))(HB:Hid (∀y d g,A true y d->ap d g->au 180 #[aF V,aB y.1.1 y.1.2.1 y.1.2.2 y.2.1.1 y.2.2.length y.2.1.2] g λe w'=>∃t,e=aw (.bool t)/\Hid ((t=false->c 3 w')/\(t=true->∃i,ai w' n 6 (.bool i)/\(i=true->c 1 w')/\(i=false->c 0 w'))))):au 156 #[aF V,.agg #[ae s0,ae s1,ag X,af sa sl sc,ae P,ae Q,ag R,af ma U T,af l m ac,ae o,ae p,ag r,af s nl u],aF n] w λe w'=>∃f,e=aw (ae f)/\c f w':=by
 have H:Hid (∃v q a,(v=w.alloc a/\q=w.heap.size/\a=.cells #[ae s0,ae s1,ag X,af sa sl sc,ae P,ae Q,ag R,af ma U T,af l m ac,ae o,ae p,ag r,af s nl u] 229)/\ap w v/\v.heap[q]?=some a/\w.heap.size<=q/\∀W:ah,W.heap[q]?=some a->ai W q 8 (af l m ac)/\ai W q 9 (ae o)/\ai W q 10 (ae p)/\ai W q 11 (ag r)/\ai W q 12 (af s nl u)):=
  ⟨_,_,_,⟨rfl,rfl,rfl⟩,aW _ _,aL _ _,aA _,λW h=>⟨aj h 8,aj h 9,aj h 10,aj h 11,aj h 12⟩⟩
 go_enter func156,ntmps156;go_wp2_with fail;obtain⟨v,q,a,⟨D,L,K⟩,I,M,O,J⟩:=H.out;rw[K]at D;rw[<-D];have Y:=av I;have aa:=av J;have ab:=av M;have ad:=av O;rw[<-L];clear D L K I J M O H;refine(E _ Y).mono ?_;rintro e al ⟨t,rfl,j⟩;obtain⟨ar,az,am,an,ao⟩:=aa al (j.1 q a ad ab);cases t
 ·have b:=av (j.2.2 rfl);go_wp2_with fail
  go_ret
  exact⟨2,rfl,b⟩
 ·have ak:=av (j.2.1 rfl);clear j E;go_wp2_with fail;refine(G _ ak).mono ?_;rintro e x ⟨y,t,rfl,z⟩;cases t
  ·have b:=av λa=>F y x (x.alloc a) z (aW _ a);go_wp2_with fail
   go_ret
   exact⟨2,rfl,b _⟩
  ·have Z:=av λa=>HB y x (x.alloc a) z (aW _ a);clear z G F HB;go_wp2_with fail;refine(Z _).mono ?_;rintro e aD ⟨t,rfl,k⟩;cases t
   ·have b:=av (k.1 rfl);go_wp2_with fail
    go_ret
    exact⟨3,rfl,b⟩
   ·obtain⟨i,aC,C,B⟩:=k.out.2 rfl;cases i
    ·have b:=av (B rfl);clear C B k;go_wp2_with fail
     go_ret
     exact⟨0,rfl,b⟩
    ·have b:=av (C rfl);clear C B k;go_wp2_with fail
     go_ret
     exact⟨1,rfl,b⟩
structure cR where
 b:Nat
 o:Nat
 pre:List Value
 post:List Value
 t:TypeId
def cR.own(b:Nat):cR:=⟨b,0,[],[],193⟩
def HB(a:cR)(room:Int)(tv lv mv:Value)(w:World):Prop:=(a.pre.length=a.o/\(a.t=193\/a.t=195))/\w.heap[a.b]?=some (.cells (a.pre++ .int .i64 room::tv::lv::mv::a.post).toArray a.t)
variable{d:cR}
theorem HB.lt(a:HB d room tv lv mv w):d.b<w.heap.size:=(aS.1 a.2).1
theorem HB.cells(a:HB d room tv lv mv w):(w.cell? ⟨d.b,d.o,none⟩=some (.int .i64 room)/\w.cell? ⟨d.b,d.o+1,none⟩=some tv/\w.cell? ⟨d.b,d.o+2,none⟩=some lv/\w.cell? ⟨d.b,d.o+3,none⟩=some mv)/\∀j,w.frozen? ⟨d.b,j,none⟩=false:=by
 obtain⟨⟨c,_⟩,e⟩:=a;refine⟨⟨?_,?_,?_,?_⟩,λj=>?_⟩
 all_goals simp[World.cell?,World.frozen?,e,<-c]
theorem HB.ty(b:HB d room tv lv mv w):d.t≠9/\d.t≠184:=by
 rcases b.1.2 with a|a<;>rw[a]<;>decide
theorem EB{l:List Value}{k:Nat}(a:d.pre.length=d.o)(b:l=(.int .i64 room::tv::lv::mv::d.post).set k v):(d.pre++ .int .i64 room::tv::lv::mv::d.post).set (d.o+k) v=d.pre++l:=by
 subst b;rw[<-a,List.set_append,if_neg (by omega),show d.pre.length+k-d.pre.length=k by omega]
theorem HB.set1(a:HB d room tv lv mv w)(v:Value):HB d room v lv mv (w.setCell ⟨d.b,d.o+1,none⟩ v):=by
 refine⟨a.1,?_⟩;have c:=EB (k:=1) (room:=room) (tv:=tv) (lv:=lv) (mv:=mv) (v:=v) a.1.1 rfl;simp only[dJ,dK]at c;simp[World.setCell,bS,a.2,c]
theorem HB.set2(a:HB d room tv lv mv w)(v:Value):HB d room tv v mv (w.setCell ⟨d.b,d.o+2,none⟩ v):=by
 refine⟨a.1,?_⟩;have c:=EB (k:=2) (room:=room) (tv:=tv) (lv:=lv) (mv:=mv) (v:=v) a.1.1 rfl;simp only[dJ,dK]at c;simp[World.setCell,bS,a.2,c]
theorem HB.set3(a:HB d room tv lv mv w)(v:Value):HB d room tv lv v (w.setCell ⟨d.b,d.o+3,none⟩ v):=by
 refine⟨a.1,?_⟩;have c:=EB (k:=3) (room:=room) (tv:=tv) (lv:=lv) (mv:=mv) (v:=v) a.1.1 rfl;simp only[dJ,dK]at c;simp[World.setCell,bS,a.2,c]
theorem HB.kept{a:cR}{room:Int}{tv lv mv:Value}{w w':World}(c:HB a room tv lv mv w)(k:w'.heap[a.b]?=w.heap[a.b]?):HB a room tv lv mv w':=⟨c.1,k.trans c.2⟩
structure co (S:Nat->Prop) (w w':World):Prop where
 os:w'.os=w.os
 tape:w'.tape=w.tape
 output:w'.output=w.output
 size:w.heap.size<=w'.heap.size
 block:∀b,b<w.heap.size->¬S b->w'.heap[b]?=w.heap[b]?
theorem co.refl(S:Nat->Prop)(w:World):co S w w:=⟨rfl,rfl,rfl,aA _,λ_ _ _=>rfl⟩
theorem co.trans{S T:Nat->Prop}{w w1 w2:World}(a:co S w w1)(k:co T w1 w2)(e:∀b,b<w.heap.size->T b->S b):co S w w2:=
 ⟨k.os.trans a.os,k.tape.trans a.tape,k.output.trans a.output,aG a.size k.size,λb c d=>(k.block b (bi c a.size) (λf=>d (e b c f))).trans (a.block b c d)⟩
theorem co.mono{T:Nat->Prop}(a:co S w w1)(c:∀b,S b->T b):co T w w1:=⟨a.os,a.tape,a.output,a.size,λb d e=>a.block b d λk=>e (c b k)⟩
theorem bC(a:Below w.heap.size w w')(S:Nat->Prop):co S w w':=⟨a.os,a.tape,a.output,a.size,λb c _=>a.block b c⟩
theorem EJ(a:w.grownBy w' row):co (λb=>row=some b) w w':=⟨a.os,a.tape,a.output,a.size,λb c d=>a.block b c λe=>d e.symm⟩
theorem bJ(w:World)(q o:Nat)(v:Value):co (λb=>b=q) w (w.setCell ⟨q,o,none⟩ v):=
 ⟨rfl,rfl,rfl,by simp[World.setCell],λb _ c=>by
  have:¬q=b:=λa=>c a.symm
  simp[World.setCell,bS,this]⟩
def mapBlock:Value->Option Nat
 | .map (some b)=>some b
 | _=>none
theorem xi:Keyed Tryz.prog 9:=string_keyed underlying9
theorem sT(w:World):(zeroValue 3).run Tryz.prog w=.ok (.int .i64 0) w:=by kernel_rfl
def strCells(l:List ByteArray):List Value:=l.map .string
def sX(D:DataW Unit)(nm:List ByteArray):Prop:=∀s:ByteArray,(Maps.has D (.string s.data.toList)=true ↔ s∈nm)/\∀i:Nat,nm[i]?=some s->D.atKey (.string s.data.toList) (.lit (.int .i64 0))=.lit (.int .i64 i)
def kM(base:Nat)(nm:List ByteArray)(lv mv:Value)(w:World):Prop:=
 w.ownsRow base 9 1 lv nm.length (strCells nm)/\nm.Nodup/\
 ((mv=.map none/\nm=[]/\lv=.slice none 0 0)\/∃mb a,mv=.map (some mb)/\base<=mb/\w.ownsMap Tryz.prog 9 (plainElem Tryz.prog 3) mb nm.length a/\sX a nm/\lv.ownBlock≠some mb)
theorem kM.kept{base:Nat}{nm:List ByteArray}{lv mv:Value}{w w':World}{S:Nat->Prop}(m:kM base nm lv mv w)(k:co S w w')(n:∀b,lv.ownBlock=some b->¬S b)(o:∀b,mapBlock mv=some b->¬S b):kM base nm lv mv w':=by
 obtain⟨g,v,f⟩:=m;have u:w'.ownsRow base 9 1 lv nm.length (strCells nm):=by
  refine⟨g.1,?_⟩;rcases g.2 with⟨c,l⟩|⟨d,cap,j,c,q,a,e⟩
  ·exact ak ⟨c,l⟩
  ·exact am ⟨d,cap,j,c,q,(k.block d (aS.1 a).1 (n d (by rw[c];rfl))).trans a,e⟩
 refine⟨u,v,?_⟩;rcases f with f|⟨mb,h,rfl,p,r,s,t⟩
 ·exact ak f
 ·refine am ⟨mb,h,rfl,p,?_,s,t⟩;obtain⟨es,i,a,e⟩:=r;exact⟨es,i,(k.block mb (aS.1 a).1 (o mb rfl)).trans a,e⟩
theorem EY(d:sX D nm){c:Int}(e:s∈nm)(a:D.atKey (.string s.data.toList) (.lit (.int .i64 0))=.lit (.int .i64 c)):∃i:Nat,nm[i]?=some s/\c=i:=by
 obtain⟨i,b⟩:=dj e;have:=(d s).2 i b;rw[this]at a;simp at a;exact⟨i,b,a.symm⟩
theorem EW(a:cR)(room:Int)(tv lv:Value)(mb:Nat)(D:DataW Unit)(nm:List ByteArray)(s:ByteArray)(w:World)(h:Hid (HB a room tv lv (.map (some mb)) w))(k:Hid (w.ownsMap Tryz.prog 9 (plainElem Tryz.prog 3) mb nm.length D))(d:Hid (sX D nm))(g:Hid (s∈nm))(v:s.size<=2048):Calls Tryz.prog 175 #[.pointer (some ⟨a.b,a.o+2,none⟩),.string s] w λe w'=>∃i:Nat,e=.returned (.int .i64 i)/\Hid (nm[i]?=some s)/\w'=w:=by
 have l:Maps.has D (.string s.data.toList)=true:=((d s).1).2 g;obtain⟨⟨p,q,r,t⟩,u⟩:=h.cells;go_enter func175,ntmps175;go_wp2_with (at_lookup;refine wpList_lookup_own_ok_int _ rfl _ _ 189 rfl 9 3 .i64 xi underlying189 underlying3 (sT _) mb nm.length D rfl k _ _ rfl (nG underlying9 (by unfold maxLen;omega)) ?_;intro c f n;have j:=av (EY d g f);clear f n;rw[l]);obtain⟨i,m,rfl⟩:=j
 go_ret
 exact⟨i,rfl,m,rfl⟩
def rR(base:Nat)(d:cR)(room:Int)(tv lv mv:Value)(nm:List ByteArray)(s:ByteArray)(w w':World)(a c:Value):Prop:=
 HB d room tv a c w'/\kM base (nm++ [s]) a c w'/\co (λb=>b=d.b\/lv.ownBlock=some b\/mapBlock mv=some b) w w'/\
 (∀b,a.ownBlock=some b->lv.ownBlock=some b\/w.heap.size<=b)/\∀b,mapBlock c=some b->mapBlock mv=some b\/w.heap.size<=b
theorem lU:(Tryz.prog.info? 9).map (λi=>(i.zero,i.size,i.bytes))=some (some (.string .empty),1,16):=by kernel_rfl
theorem Gz(l:List UInt8):WideAt.IsKeyLit (.string l):=by first|trivial|simp[WideAt.IsKeyLit]|decide
theorem CK{o:Obj}(l:HB d room tv lv (.map (some u)) w)(Q:base<=u)(R:nm.Nodup)(A:sX D nm)(E:s∉nm)(ad:s.size<=maxLen)(O:lv.ownBlock≠some u)(C:w.ownsRow base 9 1 lv nm.length (strCells nm))(q:w.ownsMap Tryz.prog 9 (plainElem Tryz.prog 3) u nm.length D)(m:Below w.heap.size w w1)(S:w2.ownsRow base 9 1 (.slice (some ⟨g,0,none⟩) (nm.length+1) c) (nm.length+1) (strCells nm++ [.string s]))(n:(w1.alloc o).grownBy w2 lv.ownBlock)(v:lv.ownBlock=some g\/g=w1.heap.size+1)(P:w4.ownsMap Tryz.prog 9 (plainElem Tryz.prog 3) u (nm.length+1) (D.put (.string s.data.toList) (.lit (.int .i64 nm.length))))(j:(w2.setCell ⟨d.b,d.o+2,none⟩ (.slice (some ⟨g,0,none⟩) (nm.length+1) c)).grownBy w4 (some u)):rR base d room tv lv (.map (some u)) nm s w w4 (.slice (some ⟨g,0,none⟩) (nm.length+1) c) (.map (some u)):=by
 have M:=l.lt;have aa:=q.lt;have ab:=m.size;have es:(w1.alloc o).heap.size=w1.heap.size+1:=by simp
 have Z:=n.size;have T:d.b≠u:=by
  rintro rfl;obtain⟨es,W,x,_⟩:=q;have e:w.heap[d.b]?=_:=l.2;rw[x]at e;cases e
 have B:lv.ownBlock≠some d.b:=λa=>by
  rcases C.2 with⟨rfl,_⟩|⟨Y,cap,X,rfl,_,x,_⟩
  ·simp[Value.ownBlock]at a
  ·simp[Value.ownBlock]at a;subst a;have e:w.heap[d.b]?=_:=l.2;rw[x]at e;injection e with e;injection e with e G;exact l.ty.1 G.symm
 have p:∀b,lv.ownBlock=some b->b<w.heap.size:=λb a=>(C.lt b a).2;have L:g≠d.b:=by
  rintro rfl;rcases v with a|a
  ·exact B a
  ·omega
 have z:g≠u:=by
  rintro rfl;rcases v with a|a
  ·exact O a
  ·omega
 have e:∀b,b<w.heap.size->lv.ownBlock≠some b->w2.heap[b]?=w.heap[b]? :=λb i f=>((n.block b (by omega) (λa=>f a.symm)).trans ((dC w1 o none).block b (by omega) (by simp))).trans (m.block b i);have y:=bJ w2 d.b (d.o+2) (.slice (some ⟨g,0,none⟩) (nm.length+1) c);have U:=y.size;have ae:=j.size;have H:HB d room tv lv (.map (some u)) w2:=l.kept (e d.b M B);have I:=H.set2 (.slice (some ⟨g,0,none⟩) (nm.length+1) c);have J:HB d room tv (.slice (some ⟨g,0,none⟩) (nm.length+1) c) (.map (some u)) w4:=I.kept (j.block d.b (by omega) (λa=>T (aJ a)));refine⟨J,⟨?_,?_,am ⟨u,_,rfl,Q,by simpa using P,?_,?_⟩⟩,⟨?_,?_,?_,?_,?_⟩,?_,?_⟩
 ·have a:strCells (nm++ [s])=strCells nm++ [.string s]:=by simp[strCells]
  rw[a,br];have N:w2.grownBy (w2.setCell ⟨d.b,d.o+2,none⟩ (.slice (some ⟨g,0,none⟩) (nm.length+1) c)) (some d.b):=⟨rfl,rfl,rfl,U,λb i f=>y.block b i (λa=>f (by rw[a]))⟩;refine qn (qn S N (am ?_)) j (am ?_)
  ·simp only[Value.ownBlock];exact λa=>L (aJ a)
  ·simp only[Value.ownBlock];exact λa=>z (aJ a)
 ·rw[fM];refine⟨R,by simp,λV K b i=>?_⟩;simp at i;subst i;exact λa=>E (a▸K)
 ·intro t;by_cases r:t=s
  ·subst r;refine⟨?_,λk h=>?_⟩
   ·rw[has_put_same q.isMap (Gz _)];simp
   ·rw[atKey_put_same q.isMap (Gz _)];have:k=nm.length:=by
     by_cases p:k<nm.length
     ·rw[dO p]at h;exact absurd (aU h) E
     ·have:=(bj.1 h).1;simp at this;omega
    rw[this]
  ·have f:(Lit.string t.data.toList)≠(Lit.string s.data.toList):=λa=>r (by
     injection a with a;cases t;cases s;simp only at a
     rw[Array.toList_inj.1 a])
   refine⟨?_,λk h=>?_⟩
   ·rw[has_put_other f,(A t).1];simp[r]
   ·rw[atKey_put_other f];refine(A t).2 k ?_;by_cases p:k<nm.length
    ·rw[dO p]at h;exact h
    ·have F:=(bj.1 h).1;simp at F;have:k=nm.length:=by omega
     subst this;simp at h;exact absurd h.symm r
 ·simp only[Value.ownBlock];exact λa=>z (aJ a)
 ·exact(j.os.trans n.os).trans m.os
 ·exact(j.tape.trans n.tape).trans m.tape
 ·exact(j.output.trans n.output).trans m.output
 ·omega
 ·intro b i f;simp only[mapBlock,not_or]at f;exact(j.block b (by omega) (λa=>f.2.2 a.symm)).trans ((y.block b (by omega) f.1).trans (e b i f.2.1))
 ·intro b a;simp only[Value.ownBlock]at a;obtain rfl:=aJ a;rcases v with a|a
  ·exact ak a
  ·exact am (by omega)
 ·exact λb a=>ak a
theorem l9(w:World)(s:ByteArray):∀j b,[Value.string s][j]?=some b->(w.alloc (.cells #[.string s] 9)).cell? ((⟨w.heap.size,0,none⟩:Addr).add j)=some b:=by
 intro j b a;rw[fF];cases j with
 | zero=>simp at a;subst a;simp[go_sem]
 | succ j=>simp at a
theorem CJ{nm:List Value}(h:w.ownsRow base 9 1 lv n nm)(c:HB d room tv o mv w):lv.ownBlock≠some d.b:=λe=>by
 rcases h.2 with⟨rfl,_⟩|⟨j,cap,i,rfl,_,g,_⟩
 ·simp[Value.ownBlock]at e
 ·simp[Value.ownBlock]at e;subst e;have a:w.heap[d.b]?=_:=c.2;rw[g]at a;injection a with a;injection a with a f;exact c.ty.1 f.symm
theorem ul{o:Obj}(i:d.b<w1.heap.size)(k:lv.ownBlock≠some d.b)(h:(w1.alloc o).grownBy w2 lv.ownBlock)(g:∀j,w1.frozen? ⟨d.b,j,none⟩=false)(f:w1.cell? ⟨d.b,d.o+2,none⟩=some v):w2.cell? ⟨d.b,d.o+2,none⟩=some v/\w2.frozen? ⟨d.b,d.o+2,none⟩=false:=by
 have c:w2.heap[d.b]?=w1.heap[d.b]? :=(h.block d.b (by simp;omega) (λe=>k e.symm)).trans ((dC w1 o none).block d.b i (by simp));exact⟨(bN c _).trans f,(jH (a:=⟨d.b,d.o+2,none⟩) c).trans (g _)⟩
theorem uk{o:Obj}(g:d.b<w1.heap.size)(h:lv.ownBlock≠some d.b)(f:(w1.alloc o).grownBy w2 lv.ownBlock)(e:w1.cell? ⟨d.b,d.o+3,none⟩=some v):w2.cell? ⟨d.b,d.o+3,none⟩=some v:=by
 have c:w2.heap[d.b]?=w1.heap[d.b]? :=(f.block d.b (by simp;omega) (λa=>h a.symm)).trans ((dC w1 o none).block d.b g (by simp));exact(bN c _).trans e
theorem yE{L:Nat}{o:Obj}(g:w1.ownsMap Tryz.prog 9 (plainElem Tryz.prog 3) u L D)(h:d.b≠u)(f:lv.ownBlock≠some u)(e:(w1.alloc o).grownBy w2 lv.ownBlock)(v:Value):(w2.setCell ⟨d.b,d.o+2,none⟩ v).ownsMap Tryz.prog 9 (plainElem Tryz.prog 3) u L D:=
 (((g.alloc o).kept e (λc=>f c.symm))).setCell (a:=⟨d.b,d.o+2,none⟩) (λc=>h c.symm) v
theorem EV(base:Nat)(a:cR)(room:Int)(tv lv:Value)(M:Option Addr)(N L:Nat)(mb:Nat)(D:DataW Unit)(nm:List ByteArray)(s:ByteArray)(w:World)(ad:lv=.slice M L N)(O:Hid (nm.length=L))(ao:L<=100000)(d:Hid (HB a room tv lv (.map (some mb)) w))(ae:Hid (base<=mb))(ap:base<=w.heap.size)(af:Hid (nm.Nodup))(j:Hid (w.ownsMap Tryz.prog 9 (plainElem Tryz.prog 3) mb L D))(t:Hid (sX D nm))(G:Hid (s∉nm))(ag:s.size<=2048)(B:Hid (lv.ownBlock≠some mb))(p:Hid (w.ownsRow base 9 1 lv L (strCells nm))):Calls Tryz.prog 175 #[.pointer (some ⟨a.b,a.o+2,none⟩),.string s] w λe w'=>e=.returned (.int .i64 L)/\∃aj ak,Hid (rR base a room tv lv (.map (some mb)) nm s w w' aj ak):=by
 subst ad;have aa:Maps.has D (.string s.data.toList)=false:=by
  cases h:Maps.has D (.string s.data.toList)
  ·rfl
  ·exact absurd (((t s).1).1 h) G
 obtain⟨ai,hit,H,I,J⟩:=bT lU;have k:=av (⟨hit,H,I,J⟩:_/\_/\_/\_);clear hit H I J;obtain⟨⟨S,T,q,U⟩,X⟩:=d.out.cells;have aq:∀(w:World)(l:Option Nat),(binOp .eql 189 (.map l) (.map none)).run Tryz.prog w=.ok (.bool l.isNone) w:=λw l=>run_eql_map_nil w _ _ _ l underlying189;go_enter func175,ntmps175;go_wp2_with (at_lookup;refine wpList_lookup_own_ok_int _ rfl _ _ 189 rfl 9 3 .i64 xi underlying189 underlying3 (sT _) mb L D rfl j _ _ rfl (nG underlying9 (by unfold maxLen;omega)) ?_;intro c W ah;clear W ah;rw[aa]);refine(ew s _ ag).mono ?_;rintro e i ⟨rfl,f⟩;have z:a.b<w.heap.size:=d.lt;have n:=av f;obtain⟨⟨d0,d1,d2,d3⟩,Y⟩:=(d.kept (f.block a.b z)).cells;have A:a.b<i.heap.size:=bi z f.size;have R:Hid (a.b≠mb):=by
  rintro rfl;obtain⟨es,al,Z,_⟩:=j.out;have v:w.heap[a.b]?=_:=d.2;rw[Z]at v;cases v
 have u:Hid ((Value.slice M L N).ownBlock≠some a.b):=CJ p d;have P:Hid (i.ownsMap Tryz.prog 9 (plainElem Tryz.prog 3) mb L D):=j.kept (dm f none) (by simp);clear f S T q U X
 go_wp2_with (first
  | (at_builtin;refine wpList_append_lies _ rfl _ _ 23 rfl base 9 ai _ 1 16 underlying23 k.1 k.2.1 k.2.2.1 k.2.2.2 rfl (by decide) _ L _ rfl ((dV p n).alloc _) ⟨i.heap.size,0,none⟩ 1 1 [.string s] rfl rfl (l9 i s) (by intro ar K;simp at K;subst K;rfl) (by decide) (by unfold maxLen;omega) (by omega) (by have:=n.size;simp;omega) (i.heap.size+1) (by simp) ?_;intro V q au E g x C;have m:=av (⟨E,g,x,C⟩:_/\_/\_/\_);obtain⟨am,f2⟩:=ul A u g Y d2;have an:=uk A u g d3;have Q:=av (yE P R B g (.slice (some ⟨V,0,none⟩) (L+1) q));clear E g x C)
  | (at_mapUpdate;refine wpList_mapUpdate_own _ rfl _ _ _ 189 rfl 9 3 xi underlying189 (plainElem Tryz.prog 3) mb L D rfl Q (by unfold maxLen;omega) _ _ _ rfl rfl (nG underlying9 (by unfold maxLen;omega)) (.lit (.int .i64 L)) [] (plainElem_int underlying3 (iP (by omega))) ?_;intro aw F y;have r:=av (⟨F,y⟩:_/\_);clear F y))
 go_ret
 have ab:=O.out;subst ab;exact⟨rfl,_,_,CK d ae af t G (by unfold maxLen;omega) B p j n m.1 m.2.1 m.2.2.1 r.1 r.2⟩
theorem Et{e:Value}{wA:World}(f:rR base d room tv lv (.map (some w.heap.size)) [] s wA w4 o e)(k:co (λb=>b=d.b) w wA)(n:wA.heap.size=w.heap.size+1):rR base d room tv lv (.map none) [] s w w4 o e:=by
 obtain⟨g,h,i,j,l⟩:=f;refine⟨g,h,?_,?_,?_⟩
 ·refine(k.mono λb c=>ak c).trans i λb c m=>?_;rcases m with a|a|a
  ·exact ak a
  ·exact am (ak a)
  ·simp only[mapBlock]at a;have:=aJ a;omega
 ·intro b a;rcases j b a with a|a
  ·exact ak a
  ·exact am (by omega)
 ·intro b a;rcases l b a with a|a
  ·simp only[mapBlock]at a;have:=aJ a;exact am (by omega)
  ·exact am (by omega)
theorem Lv:sX (.map []) []:=λs=>⟨by simp[Maps.has],λi a=>by simp at a⟩
theorem AE(base:Nat)(a:cR)(room:Int)(tv lv:Value)(s:ByteArray)(w:World)(U:lv=.slice none 0 0)(k:Hid (HB a room tv lv (.map none) w))(P:base<=w.heap.size)(Y:s.size<=2048):Calls Tryz.prog 175 #[.pointer (some ⟨a.b,a.o+2,none⟩),.string s] w λe w'=>e=.returned (.int .i64 0)/\∃aa ab,Hid (rR base a room tv lv (.map none) [] s w w' aa ab):=by
 subst U;obtain⟨Z,hit,A,B,C⟩:=bT lU;have h:=av (⟨hit,A,B,C⟩:_/\_/\_/\_);clear hit A B C;obtain⟨⟨L,M,l,N⟩,Q⟩:=k.out.cells;have S:a.b<w.heap.size:=k.lt;have ah:∀(w:World)(i:Option Nat),(binOp .eql 189 (.map i) (.map none)).run Tryz.prog w=.ok (.bool i.isNone) w:=λw i=>run_eql_map_nil w _ _ _ i underlying189;have T:(Instr.lookup 189 (.map none) (.string s) true).run Tryz.prog w=.ok (.tuple #[.int .i64 0,.bool false]) w:=by
  simpa using Maps.look_nil (w:=w) true xi underlying189 (sT _) (nG underlying9 (show s.size<=maxLen by unfold maxLen;omega))
 have V:= @run_makeMap Tryz.prog;go_enter func175,ntmps175;go_wp2_with fail;generalize E:(w.setCell ⟨a.b,a.o+3,none⟩ (.map (some w.heap.size))).alloc (.map #[] 0)=wA;have c:Hid (HB a room tv (.slice none 0 0) (.map (some w.heap.size)) wA/\wA.ownsMap Tryz.prog 9 (plainElem (H:=Unit) Tryz.prog 3) w.heap.size 0 (.map [])/\co (λb=>b=a.b) w wA/\wA.heap.size=w.heap.size+1):=by
  subst E;have es:(w.setCell ⟨a.b,a.o+3,none⟩ (.map (some w.heap.size))).heap.size=w.heap.size:=by simp[World.setCell]
  have x:=qm (w.setCell ⟨a.b,a.o+3,none⟩ (.map (some w.heap.size))) Tryz.prog 9 (plainElem (H:=Unit) Tryz.prog 3);rw[es]at x;refine⟨(k.set3 (.map (some w.heap.size))).kept ((dC _ _ none).block a.b (by rw[es];exact S) (by simp)),x,⟨rfl,rfl,rfl,by simp[World.setCell],λb q W=>?_⟩,by simp[World.setCell]⟩;exact((dC _ _ none).block b (by rw[es];exact q) (by simp)).trans ((bJ w a.b (a.o+3) (.map (some w.heap.size))).block b q W)
 clear E L M l N Q T V;refine(ew s _ Y).mono ?_;rintro e f ⟨rfl,d⟩;have u:a.b<wA.heap.size:=c.1.lt;have F:=av d;obtain⟨⟨d0,d1,d2,d3⟩,R⟩:=(c.1.kept (d.block a.b u)).cells;have t:a.b<f.heap.size:=bi u d.size;have K:Hid (a.b≠w.heap.size):=by unfold Hid;omega
 have n:Hid ((Value.slice none 0 0).ownBlock≠some a.b):=by simp[Hid,Value.ownBlock]
 have I:Hid (f.ownsMap Tryz.prog 9 (plainElem (H:=Unit) Tryz.prog 3) w.heap.size 0 (.map [])):=c.2.1.kept (dm d none) (by simp);have G:Hid (base<=f.heap.size):=by have af:=c.2.2.2;have ag:=d.size;unfold Hid;omega
 clear d
 go_wp2_with (first
  | (at_builtin;refine wpList_append_lies _ rfl _ _ 23 rfl base 9 Z _ 1 16 underlying23 h.1 h.2.1 h.2.2.1 h.2.2.2 rfl (by decide) _ 0 [] rfl (eX _ _ _ _) ⟨f.heap.size,0,none⟩ 1 1 [.string s] rfl rfl (l9 f s) (by intro ai D;simp at D;subst D;rfl) (by decide) (by unfold maxLen;omega) (by omega) (by have:=G.out;simp;omega) (f.heap.size+1) (by simp) ?_;intro O l aj y g p v;have j:=av (⟨y,g,p,v⟩:_/\_/\_/\_);obtain⟨ad,f2⟩:=ul t n g R d2;have ae:=uk t n g d3;have J:=av (yE (lv:=.slice none 0 0) I K (by simp[Value.ownBlock]) g (.slice (some ⟨O,0,none⟩) (0+1) l));clear y g p v)
  | (at_mapUpdate;refine wpList_mapUpdate_own _ rfl _ _ _ 189 rfl 9 3 xi underlying189 (plainElem Tryz.prog 3) w.heap.size 0 (.map []) rfl J (by unfold maxLen;omega) _ _ _ rfl rfl (nG underlying9 (by unfold maxLen;omega)) (.lit (.int .i64 0)) [] (plainElem_int underlying3 (iP (by omega))) ?_;intro ak z r;have m:=av (⟨z,r⟩:_/\_);clear z r))
 go_ret
 have X:=CK (nm:=[]) c.1 P (by simp) Lv (by simp) (show s.size<=maxLen by unfold maxLen;omega) (by simp[Value.ownBlock]) (eX _ _ _ _) c.2.1 F j.1 j.2.1 j.2.2.1 m.1 m.2;exact⟨rfl,_,_,Et X c.2.2.1 c.2.2.2⟩
theorem EU(base:Nat)(a:cR)(room:Int)(tv lv mv:Value)(nm:List ByteArray)(s:ByteArray)(w:World)(g:HB a room tv lv mv w)(I:kM base nm lv mv w)(B:base<=w.heap.size)(H:nm.length<=100000)(q:s.size<=2048):Calls Tryz.prog 175 #[.pointer (some ⟨a.b,a.o+2,none⟩),.string s] w λe w'=>∃i:Nat,e=.returned (.int .i64 i)/\∃h d f,Hid (h[i]?=some s/\(h=nm\/h=nm++ [s])/\HB a room tv d f w'/\kM base h d f w'/\co (λb=>b=a.b\/lv.ownBlock=some b\/mapBlock mv=some b) w w'/\ (∀b,d.ownBlock=some b->lv.ownBlock=some b\/w.heap.size<=b)/\∀b,mapBlock f=some b->mapBlock mv=some b\/w.heap.size<=b):=by
 obtain⟨l,A,G⟩:=I;rcases G with⟨rfl,rfl,m⟩|⟨mb,j,rfl,D,n,p,C⟩
 ·refine(AE base a room tv lv s w m g B q).mono ?_;rintro e w' ⟨rfl,d,f,k⟩;obtain⟨r,t,u,v,x⟩:=k.out;exact⟨0,rfl,[s],d,f,rfl,am rfl,r,t,u,v,x⟩
 ·by_cases E:s∈nm
  ·refine(EW a room tv lv mb j nm s w g n p E q).mono ?_;rintro e w' ⟨i,rfl,J,rfl⟩;exact⟨i,rfl,nm,lv,.map (some mb),J,ak rfl,g,⟨l,A,am ⟨mb,j,rfl,D,n,p,C⟩⟩,co.refl _ _,λb e=>ak e,λb e=>ak e⟩
  ·obtain⟨y,z,m⟩:∃y z,lv=.slice y nm.length z:=by
     rcases l.2 with⟨e,F⟩|⟨L,c,K,e,_⟩
     ·exact⟨none,0,by rw[e,F]⟩
     ·exact⟨_,c,e⟩
   refine(EV base a room tv lv y z nm.length mb j nm s w m rfl H g D B A n p E q C l).mono ?_;rintro e w' ⟨rfl,d,f,k⟩;obtain⟨r,t,u,v,x⟩:=k;exact⟨nm.length,rfl,nm++ [s],d,f,by simp,am rfl,r,t,u,v,x⟩
end Go.Proofs.YthjclakhibnamaaGreatDoor
