/- Proved here: plain facts and contracts. No condition but what each names. -/
import Derived.Test.YthjclakhibnamaaGreatDoorD04
import Derived.Lib.SliceRun
import Derived.Deep.RegionLaw
import Derived.Laws.CopyRow
import Derived.Maps.RangeWalk
import Derived.WideKeyPair
import Derived.WideKeyEntry
import Derived.OrdersHeld
import Derived.Maps.OwnSet
import Derived.StringKeys
namespace Go.Proofs.YthjclakhibnamaaGreatDoor
open Go.RowKit Go.Proofs.Tryz
open Go.RowKit Go.Maps
set_option maxHeartbeats 4000000
set_option maxRecDepth 100000
def xx(N:Nat):Tm (N+1):=cw 0 0 N
def Bm(N:Nat)(E:Int)(o:Option (Tm (N+1)))(w:ah)(e:Ending)(w':ah):Prop:=
 ∃a:Tm (N+1),e=aw (ax #[dF (N+1) a,ae (GH E (oR E o))])/\Hid (ap w w'/\In w'.heap.size w' (N+1) a/\cF (λb=>w.heap.size<=b) (N+1) a/\aJ (N+1) a (N+1) ((oR E o).getD (xx N))=true)
variable{y:An}{bd:Bool}{s:ByteArray}{D:DataW Unit}{x E room self:Int}{j k:Int×Int}{b:List An}{nm:List ByteArray}{xs:List Value}{u B N base c g m n p q sz:Nat}{S:Nat->Prop}{row:Option Nat}{h:Type}{T e t:TypeId}{o lv mv tv v:Value}{w w' w1 w2 w4:World}{z w0 wr:ah}{a:ay}{l A C F v0 v1 v2 v3:az}{f:h->List az}{i:(Nat->Prop)->h->Prop}{r:Nat->ah->h->Prop}
theorem pU{o:Option (Tm (N+1))}{w w':ah}(b:ap w w')(a:oR E o=none)(c:x=GH E (oR E o)):Bm N E o w (aw (ax #[.agg #[ae 0,ae 0,af .empty,ag none 0 0],ae x])) w':=by
 refine⟨xx N,by rw[c];rfl,b,(lX N 0 0 jR jR _ _ (λ_=>True)).1,(lX N 0 0 jR jR 0 w _).2,?_⟩;rw[a];exact yx N 0 0
theorem NU{o:Option (Tm (N+1))}{a:Tm (N+1)}{w w1 w2:ah}{y:Tm (N+1)}(e:E=0)(m:o=some a)(k:bK (N+1) a=0)(f:ap w w1)(n:w.heap.size<=q)(s:q<w1.heap.size)(h:ap w1 w2)(p:In w2.heap.size w2 (N+1) y)(i:cF (λq=>w1.heap.size<=q) (N+1) y)(r:aJ (N+1) y (N+1) a=true)(c:ap w2 z)(v0 v1 v2 v3:az):Bm N E o w (aw (ax #[.agg #[ae y.1.1,ae y.1.2.1,af y.1.2.2,ag y.2.1.1 y.2.2.length y.2.1.2],ae 0])) (dk z q 0 v0 v1 v2 v3):=by
 have g:=f.size;have j:=(f.trans (h.mono g)).trans (c.mono (aF g h.size));have d:oR E o=some a:=by simp[oR,e,m,k]
 refine⟨y,by rw[d];simp[GH,e,dF],dx j n _ _ _ _,?_,i.mono λb l=>by omega,by rw[d];exact r⟩;rw[bJ];exact In.off (P:=λb=>w1.heap.size<=b) (λb l=>bw (by omega) _ _ _ _) i ((p.below c).mono c.size)
theorem C7(a:GI x bd self=0):x=0/\bd=true/\1<=self/\self<=99:=by
 unfold GI at a;split at a
 ·split at a
  ·split at a
   ·rename_i b c d;exact⟨b,c,d⟩
   ·cases a
  ·cases a
 ·rename_i b;exact absurd a b
theorem JI{b:List (Tm m)}{x:Tm (n+1)}{a:Tm (m+n+1)}(c:bK (n+1) x=0)(d:gG m b=true)(h:vl m b self (n+1) x=some a):(aH (m+n+1) a).length<=2097152:=by
 have f:=jP c;have e:=DC m b self 201 (by omega) (λi g=>jP ((iB d).2 i g).1) (n+1) x a h;have:201*(aH (n+1) x).length<=201*201:=Nat.mul_le_mul_left 201 f;exact aF e (by omega)
theorem vm(w:ah)(a b c d:az)(t1 t2:TypeId):ap w ((w.alloc (.cells #[a,b,c,d] t1)).alloc (.cells #[ae 0,ae 0,af .empty,ag none 0 0] t2))/\oN (w.heap.size+1) ((w.alloc (.cells #[a,b,c,d] t1)).alloc (.cells #[ae 0,ae 0,af .empty,ag none 0 0] t2)):=by
 refine⟨(aV _ _).alloc (by simp) _,⟨?_,?_,?_,?_⟩,⟨?_,?_,?_,?_⟩,?_⟩<;>simp[go_sem]
theorem FL{w w':ah}{y0 y1 y2 b:az}{t1 t2:TypeId}(c:Below ((w.alloc (.cells #[l,A,C,F] t1)).alloc (.cells #[y0,y1,y2,b] t2)).heap.size ((w.alloc (.cells #[l,A,C,F] t1)).alloc (.cells #[y0,y1,y2,b] t2)) w'):ai w' w.heap.size 0 l/\ai w' w.heap.size 1 A/\ai w' w.heap.size 2 C/\ai w' w.heap.size 3 F:=by
 have a:=λo=>c.cell (p:=⟨w.heap.size,o,none⟩) (by simp;omega);exact⟨(a 0).trans (by simp[go_sem]),(a 1).trans (by simp[go_sem]),(a 2).trans (by simp[go_sem]),(a 3).trans (by simp[go_sem])⟩
theorem C8(N:Nat)(o:Option (Tm (N+1)))(a:ay)(U c:Nat)(self:Int)(Z aa:Int)(ab:aq)(xa:ay)(ad xc:Nat)(l:Int)(bd:Bool)(w:ah)(aj:Hid (∀w1,ap w w1->au 53 #[.agg #[ae Z,ae aa,af ab,ag xa ad xc]] w1 λe w'=>e=aw (ae l)/\ap w1 w'))(ai:Hid (∀w1,ap w w1->au 225 #[ag a U c] w1 λe w'=>e=aw (.bool bd)/\ap w1 w'))(r:Hid (GI l bd self=0->∀w1,ap w w1->au 231 #[.agg #[ag a U c,ae self],.agg #[ae Z,ae aa,af ab,ag xa ad xc]] w1 (kN (N+1) o w1)))(p:Hid (GI l bd self=0->∀(y f:Tm (N+1))(w1:ah),o=some f->aJ (N+1) y (N+1) f=true->In w1.heap.size w1 (N+1) y->au 53 #[.agg #[ae y.1.1,ae y.1.2.1,af y.1.2.2,ag y.2.1.1 y.2.2.length y.2.1.2]] w1 λe w'=>e=aw (ae (bK (N+1) f))/\ap w1 w')):au 205 #[.agg #[ae Z,ae aa,af ab,ag xa ad xc],ag a U c,ae self] w (Bm N (GI l bd self) o w):=by
 obtain⟨E,Q⟩:∃E,E=GI l bd self:=⟨_,rfl⟩;rw[<-Q]at r p ⊢;have m:=av Q;clear Q;go_enter func205,ntmps205;go_wp2_with fail;refine(aj _ (vm w _ _ _ _ _ _).1).mono ?_;rintro e w1 ⟨rfl,I⟩;have an:=av (FL I);have A:Hid (ap w w1):=(vm w _ _ _ _ _ _).1.trans (I.mono (vm w _ _ _ _ _ _).1.size);have F:=av ((vm w _ _ _ _ _ _).2.below I);clear I aj;by_cases d:l=0
 case neg=>
  have aL:(l !=0)=true:=by simpa using d
  have b:Hid (E=l/\l≠0):=⟨by rw[m.out];simp[GI,d],d⟩;obtain⟨⟨g,h,i,j⟩,⟨f0,f1,f2,f3⟩,x⟩:=F.out;clear r m d p;go_wp2_with fail;exact aD (v:=ax #[.agg #[ae 0,ae 0,af .empty,ag none 0 0],ae l]) (by simp[results,results205,go_sem,g,h,i,j];rfl) rfl (pU (dx A (by omega) _ _ _ _) (by simp[oR,b.out.1,b.out.2]) (by simp[GH,b.out.1,b.out.2]))
 have aL:(l !=0)=false:=by simp[d]
 go_wp2_with fail;refine(ai _ A).mono ?_;rintro e aB ⟨rfl,J⟩;have ao:=av (oT (Nat.lt_of_succ_lt F.2.2) J an);have n:Hid (ap w aB):=A.trans (J.mono A.size);have q:=av (F.below J);clear J ai A an F;cases bd
 ·have b:Hid (E=5):=by rw[Hid,m.out];simp[GI,d]
  obtain⟨⟨g,h,i,j⟩,⟨f0,f1,f2,f3⟩,x⟩:=q.out;clear r m d p;go_wp2_with fail;exact aD (v:=ax #[.agg #[ae 0,ae 0,af .empty,ag none 0 0],ae 5]) (by simp[results,results205,go_sem,g,h,i,j];rfl) rfl (pU (dx n (by omega) _ _ _ _) (by simp[oR,b.out]) (by simp[GH,b.out]))
 ·by_cases az:self<1
  ·have aG:decide (self<1)=true:=by simpa using az
   have b:Hid (E=1):=by rw[Hid,m.out];simp only[GI,d,cC];rw[if_neg (by omega)]
   obtain⟨⟨g,h,i,j⟩,⟨f0,f1,f2,f3⟩,x⟩:=q.out;clear r m d p;go_wp2_with fail;exact aD (v:=ax #[.agg #[ae 0,ae 0,af .empty,ag none 0 0],ae 1]) (by simp[results,results205,go_sem,g,h,i,j];rfl) rfl (pU (dx n (by omega) _ _ _ _) (by simp[oR,b.out]) (by simp[GH,b.out]))
  ·have aG:decide (self<1)=false:=by simpa using az
   by_cases aA:99<self
   ·have aH:decide (99<self)=true:=by simpa using aA
    have b:Hid (E=1):=by rw[Hid,m.out];simp only[GI,d,cC];rw[if_neg (by omega)]
    obtain⟨⟨g,h,i,j⟩,⟨f0,f1,f2,f3⟩,x⟩:=q.out;clear r m d p;go_wp2_with fail;exact aD (v:=ax #[.agg #[ae 0,ae 0,af .empty,ag none 0 0],ae 1]) (by simp[results,results205,go_sem,g,h,i,j];rfl) rfl (pU (dx n (by omega) _ _ _ _) (by simp[oR,b.out]) (by simp[GH,b.out]))
   ·have aH:decide (99<self)=false:=by simpa using aA
    have B:Hid (E=0):=by rw[Hid,m.out];simp only[GI,d,cC];rw[if_pos (by omega)]
    obtain⟨aP,aQ,aR,aS⟩:=ao.out;have aU:w.heap.size<aB.heap.size:=Nat.lt_of_succ_lt q.2.2;clear m d;go_wp2_with fail;refine(r B _ n).mono ?_;rintro e z ⟨y,aO,rfl,k⟩;have K:Hid (ap w z):=n.trans (k.1.mono n.size);have G:=av (q.below k.1);have ar:dF (N+1) y=.agg #[ae y.1.1,ae y.1.2.1,af y.1.2.2,ag y.2.1.1 y.2.2.length y.2.1.2]:=rfl;rw[ar];clear r ar aP aQ aR aS ao;cases aO
    ·have ak:Hid (o=none):=by
       have:=k.2.2.2.1;cases o with
       | none=>rfl
       | some f=>cases this
     obtain⟨⟨g,h,i,j⟩,⟨f0,f1,f2,f3⟩,x⟩:=G.out;clear k p;go_wp2_with fail;exact aD (v:=ax #[.agg #[ae 0,ae 0,af .empty,ag none 0 0],ae 7]) (by simp[results,results205,go_sem,g,h,i,j,x];rfl) rfl (pU ((dx K (by omega) _ _ _ _).alloc (by rw[bJ];omega) _) (by simp[oR,ak.out]) (by simp[GH,oR,ak.out,B.out]))
    ·obtain⟨f,T⟩:∃f,o=some f:=by
       have:=k.2.2.2.1;cases o with
       | none=>cases this
       | some f=>exact⟨f,rfl⟩
     have H:=av T;have am:=av (k.2.2.2.2 f T)
     have O:Hid (∀w1,ap z w1->au 53 #[.agg #[ae y.1.1,ae y.1.2.1,af y.1.2.2,ag y.2.1.1 y.2.2.length y.2.1.2]] w1 λe w'=>e=aw (ae (bK (N+1) f))/\ap w1 w'):=
      λw1 t=>p B y f w1 H am ((k.2.1.below t).mono t.size)
     obtain⟨s,S⟩:∃s,s=bK (N+1) f:=⟨_,rfl⟩;rw[<-S]at O;have M:=av S;have P:=λ(D:ah)(aK:ap z D)(aI:s=0) V W X Y=>av (NU (E:=E) B H (M.symm.trans aI) n (ku _ 1) q.2.2 k.1 k.2.1 k.2.2.1 am aK V W X Y);clear T S p k q n;go_wp2_with fail;refine(O _ (aV _ _)).mono ?_;rintro e D ⟨rfl,R⟩;obtain⟨⟨t0,t1,t2,t3⟩,_⟩:=F6 R;have L:Hid (ap z D):=(aV _ _).trans (R.mono (by simp));have aC:=av (G.below L);have aF:Hid (ap w D):=K.trans (L.mono K.size);obtain⟨⟨g,h,i,j⟩,⟨f0,f1,f2,f3⟩,x⟩:=aC;have aN:¬(w.heap.size+1=z.heap.size):=by have:=G.2.2;omega
     have aT:¬(z.heap.size=w.heap.size+1):=λe=>aN e.symm;clear R O G;by_cases u:s=0
     ·have aM:(s !=0)=false:=by simp[u]
      have aE:=λV W X Y=>P D L u V W X Y;clear P u;go_wp2_with fail;exact aD (v:=ax #[.agg #[ae y.1.1,ae y.1.2.1,af y.1.2.2,ag y.2.1.1 y.2.2.length y.2.1.2],ae 0]) (by simp[results,results205,go_sem,g,h,i,j]) rfl (aE _ _ _ _)
     ·have aM:(s !=0)=true:=by simpa using u
      have al:=av u;clear P u;go_wp2_with fail;exact aD (v:=ax #[.agg #[ae 0,ae 0,af .empty,ag none 0 0],ae 7]) (by simp[results,results205,go_sem,g,h,i,j];rfl) rfl (pU (dx aF (by omega) _ _ _ _) (by have t:=M.out;have C:=al.out;rw[t]at C;simp[oR,H.out,C]) (by have t:=M.out;have C:=al.out;rw[t]at C;simp[GH,oR,H.out,B.out,C]))
theorem Fk(n m:Nat)(x:Tm (n+1))(b:List (Tm m))(a:ay)(c B:Nat)(self:Int)(w:ah)(p:In B w (n+1) x)(k:fU B w m b a)(f:B<=w.heap.size)(r:(aH (n+1) x).length<=2097152)(t:b.length<=9223372036854775807)(s:∀y∈b,(aH m y).length<=2097152):au 205 #[dF (n+1) x,ag a b.length c,ae self] w (Bm (m+n) (GI (bK (n+1) x) (gG m b) self) (vl m b self (n+1) x) w):=by
 refine C8 (m+n) _ a b.length c self x.1.1 x.1.2.1 x.1.2.2 x.2.1.1 x.2.2.length x.2.1.2 (bK (n+1) x) (gG m b) w ?_ ?_ ?_ ?_
 ·intro e d;exact dW (n+1) x B e (p.below (d.mono f)) (aF f d.size) r
 ·intro e d;exact Bv m b a c B e (k.below (d.mono f)) t s (aF f d.size)
 ·intro i e d;obtain⟨h,g,j⟩:=C7 i;have q:=(iB g).1;rw[q];exact JJ m b self g j (n+1) x a c B e (p.below (d.mono f)) (aY.2 (bT.1 h).1) (k.below (d.mono f)) (aF f d.size)
 ·intro i y A e z o u;obtain⟨h,g,j⟩:=C7 i;have v:=JI h g z;have l:=dW (m+n+1) y e.heap.size e u (aA _) (by rw[lp _ _ _ _ o];exact v);rw[bO o]at l;exact l
theorem Db{a:Nat}{x:Tm n}{y:Tm m}{x':Tm u}{b:Tm a}(d:aJ n x u x'=true)(k:aJ m y a b=true):aJ n x m y=aJ u x' a b:=by
 cases c:aJ u x' a b with
 | true=>exact bV _ _ _ _ _ _ d (bV _ _ _ _ _ _ c (dE _ _ _ _ k))
 | false=>
  cases e2:aJ n x m y with
  | false=>rfl
  | true=>
   have e:=bV _ _ _ _ _ _ (dE _ _ _ _ d) (bV _ _ _ _ _ _ e2 k);rw[c]at e;cases e
def pt:Option (List An)->Option (List An)->Prop
 | none,none=>True
 | some b,some c=>aN eI b c=true
 | _,_=>False
theorem wj{x:An}(a:eI x y=true):ci x=ci y:=by
 obtain⟨n,x⟩:=x;obtain⟨b,y⟩:=y;cases n with
 | zero=>simp[eI,aJ]at a
 | succ n=>
  cases b with
  | zero=>simp[eI,aJ]at a
  | succ b=>
   simp only[eI,aJ,aS,cT]at a;exact a.1.1.1
theorem vt{c d:Type}{f:c->d->Bool}{a:c}{b:d}(e:f a b=true):(p:List c)->(q:List d)->(i:Nat)->aN f p q=true->aN f (p.set i a) (q.set i b)=true
 | [],[],_,_=>by simp[aN]
 | [],_::_,_,h=>by simp[aN]at h
 | _::_,[],_,h=>by simp[aN]at h
 | x::p,y::q,0,h=>by
  simp only[aN,aS]at h;simp[aN,e,h.2]
 | x::p,y::q,i+1,h=>by
  simp only[aN,aS]at h;simp[aN,h.1,vt e p q i h.2]
theorem Et{c:List An}{i:Nat}{t h:An}(f:aN eI b c=true)(j:eI t h=true):pt (vV b i t) (vV c i h):=by
 have o:=cW _ _ _ f;unfold vV;cases e:b[i]? with
 | none=>
  have a:c[i]?=none:=by
   rw[List.getElem?_eq_none_iff]at e ⊢;omega
  rw[a];trivial
 | some g=>
  obtain⟨n,m⟩:=bi.1 e;have a:c[i]?=some c[i]:=aU (by omega);rw[a];have k:eI g c[i]=true:=jZ _ _ _ f i _ _ e a;simp only;rw[<-wj k];by_cases d:ci g=6
  ·rw[if_pos d,if_pos d];exact vt j _ _ _ f
  ·rw[if_neg d,if_neg d];have l:eI g t=eI c[i] h:=Db k j;rw[<-l];cases eI g t
   ·simp[pt]
   ·simpa [pt]using f
theorem vU{n r o s:Type}(f:n->r->List An->Option (List An))(g:o->s->List An->Option (List An))(P:n->o->Bool)(Q:r->s->Bool):(p:List n)->(q:List r)->(a:List o)->(h:List s)->(∀x∈p,∀y∈q,∀x' k b c,P x x'=true->Q y k=true->aN eI b c=true->pt (f x y b) (g x' k c))->aN P p a=true->aN Q q h=true->∀b c,aN eI b c=true->pt (jQ f p q b) (jQ g a h c)
 | [],_,a,_,_,i,_,b,c,l=>by
  cases a with
  | nil=>simpa [jQ,pt]using l
  | cons _ _=>simp[aN]at i
 | x::p,[],a,h,_,i,j,b,c,l=>by
  cases h with
  | nil=>cases a<;>simpa [jQ,pt]using l
  | cons _ _=>simp[aN]at j
 | x::p,y::q,a,h,hf,i,j,b,c,l=>by
  cases a with
  | nil=>simp[aN]at i
  | cons x' a=>
   cases h with
   | nil=>simp[aN]at j
   | cons k h=>
    simp only[aN,aS]at i j;have e:=hf x (by simp) y (by simp) x' k b c i.1 j.1 l;simp only[jQ];cases e1:f x y b with
    | none=>
     rw[e1]at e;cases m:g x' k c with
     | none=>simp[pt]
     | some _=>rw[m]at e;exact e.elim
    | some d=>
     rw[e1]at e;cases m:g x' k c with
     | none=>rw[m]at e;exact e.elim
     | some t=>
      rw[m]at e;simp only[dT];exact vU f g P Q p q a h (λx u y v=>hf x (by simp[u]) y (by simp[v])) i.2 j.2 d t e
theorem mZ:(n:Nat)->(p:Tm n)->(m:Nat)->(t:Tm m)->(d:Nat)->(j:Tm d)->(a:Nat)->(k:Tm a)->(b c:List An)->aJ n p d j=true->aJ m t a k=true->aN eI b c=true->pt (jb n p m t b) (jb d j a k c)
 | 0,_,_,_,_,_,_,_,_,_,h,_,_=>by simp[aJ]at h
 | _+1,_,_,_,0,_,_,_,_,_,h,_,_=>by simp[aJ]at h
 | _+1,_,0,_,_+1,_,_,_,_,_,_,h,_=>by simp[aJ]at h
 | _+1,_,_+1,_,_+1,_,0,_,_,_,_,h,_=>by simp[aJ]at h
 | n+1,p,m+1,t,d+1,j,a+1,k,b,c,hp,ht,hb=>by
  have u:=hp;have l:=ht;simp only[aJ,aS,cT]at hp ht;obtain⟨⟨⟨v,w⟩,A⟩,o⟩:=hp;obtain⟨⟨⟨t1,t2⟩,t3⟩,t4⟩:=ht;unfold jb;rw[<-v,<-w,<-t1,<-cW _ _ _ o,<-cW _ _ _ t4];by_cases g:p.1.1=6
  ·rw[if_pos g,if_pos g];exact hb
  ·rw[if_neg g,if_neg g];by_cases f:p.1.1=5
   ·rw[if_pos f,if_pos f];exact Et hb l
   ·rw[if_neg f,if_neg f];by_cases e:p.1.1=4
    ·rw[if_pos e,if_pos e];by_cases i:t.1.1=4/\p.2.2.length=t.2.2.length
     ·rw[if_pos i,if_pos i];exact vU _ _ (λx y=>aJ n x d y) (λx y=>aJ m x a y) p.2.2 t.2.2 j.2.2 k.2.2 (λx _ y _ x' z b c q r s=>mZ n x m y d x' a z b c q r s) o t4 b c hb
     ·rw[if_neg i,if_neg i];trivial
    ·rw[if_neg e,if_neg e,<-Db u l];cases aJ (n+1) p (m+1) t
     ·simp[pt]
     ·simpa [pt]using hb
theorem Ck{w w':ah}(c:w.grownBy w' (some g)):∀b o,b<w.heap.size->b≠g->w'.cell? ⟨b,o,none⟩=w.cell? ⟨b,o,none⟩:=
 λb o d e=>World.cell?_of_block (a:=⟨b,o,none⟩) (c.block b d (by simpa using e))
theorem si{w w':ah}{row:dc}(a:w.drew.grownBy w' row):w.grownBy w' row:=⟨a.os,a.tape,a.output,a.size,a.block⟩
theorem Hx(p q:Nat)(a d:ay)(pc h:Nat)(g c:Nat)(base:Nat)(w:ah)(_hpc:p<=9223372036854775807)(_hqc:q<=9223372036854775807)(f:((p:Int)==(q:Int))=false):au 236 #[ag (some ⟨g,0,none⟩) 4 c,ag a p pc,ag d q h] w (fh base g c none w):=by
 have i:((p:Int) !=(q:Int))=true:=by simpa using f
 go_enter func236,ntmps236;go_wp2_with fail
 go_ret
 exact⟨rfl,gS _ _,λb e=>by cases e⟩
theorem vT(a e:ay)(pc i:Nat)(g c:Nat)(base:Nat)(b:List An)(w:ah)(H:nS base g c b w):au 236 #[ag (some ⟨g,0,none⟩) 4 c,ag a 0 pc,ag e 0 i] w (fh base g c (some b) w):=by
 have d:=av H;clear H;go_enter func236,ntmps236;go_wp2_with fail
 go_loop [16] (λh=>h=ae 0) (λ_=>0)
 case atStart=>rfl
 case round=>
  obtain rfl:=hrel;go_wp2_with fail
  go_ret
  exact⟨rfl,gS _ _,λj f=>by obtain rfl:=aI f;exact d⟩
theorem Hw(n m:Nat)(ih:OH n)(p:List (Tm n))(q:List (Tm m))(len:Nat)(ab:Hid (p.length=len))(ay:Hid (q.length=len))(K po d j pc az:Nat)(b:List An)(base g c B:Nat)(w:ah)(aE:len<=9223372036854775807)(aw:K<B)(ax:d<B)(aa:∀(i:Nat)(y:Tm n),p[i]?=some y->eg w K (po+i*4) n y/\In B w n y)(ad:∀(i:Nat)(y:Tm m),q[i]?=some y->eg w d (j+i*4) m y/\In B w m y)(ai:∀y∈p,aL ⟨n,y⟩)(aj:∀y∈q,aL ⟨m,y⟩)(V:Hid (DO B w b))(U:B<=base)(H:Hid (nS base g c b w)):au 236 #[ag (some ⟨g,0,none⟩) 4 c,ag (some ⟨K,po,none⟩) len pc,ag (some ⟨d,j,none⟩) len az] w (fh base g c (jQ (λx y b=>jb n x m y b) p q b) w):=by
 have W:B<=g:=aF U H.out.lt.1;have X:g<w.heap.size:=H.out.lt.2;go_enter func236,ntmps236;go_wp2_with fail;go_loopw [16] (λi wr=>∃k:Nat,k<=len/\i=ae k/\Hid (w.grownBy wr (some g)/\∃a,nS base g c a wr/\DO B wr a/\jQ (λx y b=>jb n x m y b) (p.drop k) (q.drop k) a=jQ (λx y b=>jb n x m y b) p q b)) (λi _=>len-(intOf i).toNat)
 case atStart=>exact⟨0,by omega,rfl,gS _ _,b,H.out,V.out,rfl⟩
 case round=>
  obtain⟨k,aB,rfl,v⟩:=hrel;by_cases Z:k<len
  ·obtain⟨x,E⟩:∃x,p[k]?=some x:=⟨p[k]'(by rw[ab.out];exact Z),aU _⟩;obtain⟨y,I⟩:∃y,q[k]?=some y:=⟨q[k]'(by rw[ay.out];exact Z),aU _⟩;obtain⟨l,a,L,u,t⟩:Hid (w.grownBy wr (some g))/\∃a,Hid (nS base g c a wr)/\Hid (DO B wr a)/\Hid (jQ (λx y b=>jb n x m y b) (p.drop k) (q.drop k) a=jQ (λx y b=>jb n x m y b) p q b):=v.out;clear v;obtain⟨F,G⟩:=aa k x E;obtain⟨J,r⟩:=ad k y I;have z:=av (Hz (λx y b=>jb n x m y b) p q k x y E I a);have T:=av (ai x (aT E));have N:=av (aj y (aT I));have o:=oZ l.out W X;replace F:=F.below o aw;replace J:=J.below o ax;replace G:=G.below o;replace r:=r.below o;have aA:g<wr.heap.size:=bf X l.out.size;have D:B<=wr.heap.size:=by omega
   clear aa ad E I ai aj V H o;cases n with
   | zero=>exact F.elim
   | succ n=>
   cases m with
   | zero=>exact J.elim
   | succ m=>
   obtain⟨aN,aO,aP,aQ⟩:=F;obtain⟨y0,y1,y2,aR⟩:=J
   have Q:Hid (∀(h:ah),ap wr h->au 227 #[ag (some ⟨g,0,none⟩) 4 c,.agg #[ae x.1.1,ae x.1.2.1,af x.1.2.2,ag x.2.1.1 x.2.2.length x.2.1.2],.agg #[ae y.1.1,ae y.1.2.1,af y.1.2.2,ag y.2.1.1 y.2.2.length y.2.1.2]] h (fh base g c (jb (n+1) x (m+1) y a) h)):=
    λh C=>ih x (m+1) y a base g c B h (G.below (C.mono D)) (r.below (C.mono D)) T.out N.out (u.out.below (C.mono D)) U (L.out.below C)
   have M:Hid (∀s e,jb (n+1) x (m+1) y a=s->s=some e->DO B wr e):=λs e ao aq=>u.out.fit r N.out (ao.trans aq);clear ih G r T N u;replace z:Hid (jQ (λx y b=>jb (n+1) x (m+1) y b) (p.drop k) (q.drop k) a=(jb (n+1) x (m+1) y a).bind (jQ (λx y b=>jb (n+1) x (m+1) y b) (p.drop (k+1)) (q.drop (k+1)))):=z;generalize jb (n+1) x (m+1) y a=s at*;generalize x.2.2.length=ak at*;generalize y.2.2.length=yl at*;have aC:(0:Int)<=(k:Int):=by omega
   have aD:(k:Int)<(len:Int):=by omega
   have aG:K<wr.heap.size:=by omega
   have aJ:d<wr.heap.size:=by omega
   have aK:d<wr.heap.size+1:=by omega
   have aH:d≠g:=by omega
   have aM:wr.heap.size≠g:=by omega
   have al:=av (Q.out (wr.alloc (.cells #[ae x.1.1,ae x.1.2.1,af x.1.2.2,ag x.2.1.1 ak x.2.1.2] 54)).drew ((aV _ _).drew));clear Q;go_wp2_with fail
   go_region_held3 (λf=>f.cell? ⟨wr.heap.size,0,none⟩=some (ae x.1.1)/\f.cell? ⟨wr.heap.size,1,none⟩=some (ae x.1.2.1)/\f.cell? ⟨wr.heap.size,2,none⟩=some (af x.1.2.2)/\f.cell? ⟨wr.heap.size,3,none⟩=some (ag x.2.1.1 ak x.2.1.2)
       /\f.cell? ⟨d,j+k*4,none⟩=some (ae y.1.1)/\f.cell? ⟨d,j+k*4+1,none⟩=some (ae y.1.2.1)/\f.cell? ⟨d,j+k*4+2,none⟩=some (af y.1.2.2)/\f.cell? ⟨d,j+k*4+3,none⟩=some (ag y.2.1.1 yl y.2.1.2))
    (go_keep) ((go_at_call 227;refine al.out.mono ?_;rintro A h ⟨rfl,O,Y⟩;have ar:=Ck (si O);have R:=av (si O);have am:=av Y;clear O Y))
   have S:Hid (w.grownBy h (some g)):=mx l.out (mx (dB wr _ _) R.out);clear ar;cases s with
   | some e=>
    have an:Hid (DO B h e):=(M.out _ e rfl rfl).below (((aV _ _).mono D).trans (oZ R.out W (by simp;omega)));clear M;simp only[lI];go_wp2_with fail;go_roundw
    case rel=>exact⟨k+1,by omega,by go_num,S.out,e,am.out e rfl,an.out,by rw[<-t.out,z.out];rfl⟩
    case measure=>simp[intOf];omega
   | none=>
    clear M;simp only[nP];go_wp2_with fail
    go_ret
    have P:jQ (λx y b=>jb (n+1) x (m+1) y b) p q b=none:=by rw[<-t.out,z.out];rfl
    rw[P];exact⟨rfl,S.out,λa A=>by cases A⟩
  ·obtain⟨l,a,L,u,t⟩:Hid (w.grownBy wr (some g))/\∃a,Hid (nS base g c a wr)/\Hid (DO B wr a)/\Hid (jQ (λx y b=>jb n x m y b) (p.drop k) (q.drop k) a=jQ (λx y b=>jb n x m y b) p q b):=v.out;clear v;go_wp2_with fail
   go_ret
   have P:jQ (λx y b=>jb n x m y b) p q b=some a:=by rw[<-t.out,km (by rw[ab.out];omega)];rfl
   rw[P];exact⟨rfl,l.out,λe A=>by obtain rfl:=aI A;exact L.out⟩
theorem Es(n m:Nat)(ih:OH n)(p:List (Tm n))(q:List (Tm m))(a e:ay)(pc j:Nat)(b:List An)(base g c B:Nat)(w:ah)(f:p=[]\/∃b o,a=some ⟨b,o,none⟩/\b<B/\∀(i:Nat)(y:Tm n),p[i]?=some y->eg w b (o+i*4) n y/\In B w n y)(h:q=[]\/∃b o,e=some ⟨b,o,none⟩/\b<B/\∀(i:Nat)(y:Tm m),q[i]?=some y->eg w b (o+i*4) m y/\In B w m y)(u:p.length<=9223372036854775807)(A:q.length<=9223372036854775807)(C:∀y∈p,aL ⟨n,y⟩)(D:∀y∈q,aL ⟨m,y⟩)(r:DO B w b)(l:B<=base)(H:nS base g c b w):au 236 #[ag (some ⟨g,0,none⟩) 4 c,ag a p.length pc,ag e q.length j] w (fh base g c (if p.length=q.length then jQ (λx y b=>jb n x m y b) p q b else none) w):=by
 by_cases d:p.length=q.length
 ·rw[if_pos d];rcases f with f|⟨E,po,rfl,t,f⟩
  ·subst f;have v:q=[]:=b8 d.symm;subst v;exact vT a e pc j g c base b w H
  ·rcases h with h|⟨F,G,rfl,z,h⟩
   ·subst h;have s:p=[]:=b8 d;subst s;exact vT _ e pc j g c base b w H
   ·have k:=Hw n m ih p q p.length rfl d.symm E po F G pc j b base g c B w (by omega) t z f h C D r l H;rw[<-d];exact k
 ·rw[if_neg d];exact Hx p.length q.length a e pc j g c base w u A (by simp;omega)
theorem fh.from{o:Option (List An)}{w w1:ah}(a:w.grownBy w1 (some g)){e:Ending}{w2:ah}(k:fh base g c o w1 e w2):fh base g c o w e w2:=
 ⟨k.1,mx a k.2.1,k.2.2⟩
theorem Ib(k D j E:Int)(s C:aq)(a t:ay)(l u pc v:Nat)(base g c:Nat)(b:List An)(o p:Option (List An))(sm:Bool)(w:ah)(H:Hid (nS base g c b w))(q:Hid (k=5->∀w1,ap w w1->au 235 #[ag (some ⟨g,0,none⟩) 4 c,ae D,.agg #[ae j,ae E,af C,ag t u v]] w1 (fh base g c o w1)))(G:Hid (∀w1,ap w w1->au 236 #[ag (some ⟨g,0,none⟩) 4 c,ag a l pc,ag t u v] w1 (fh base g c p w1)))(M:Hid (∀w1,ap w w1->au 237 #[.agg #[ae k,ae D,af s,ag a l pc],.agg #[ae j,ae E,af C,ag t u v]] w1 λe w'=>∃r,e=aw (ae r)/\Hid ((r==0)=sm)/\ap w1 w')):au 227 #[ag (some ⟨g,0,none⟩) 4 c,.agg #[ae k,ae D,af s,ag a l pc],.agg #[ae j,ae E,af C,ag t u v]] w (fh base g c (if k=6 then some b else if k=5 then o else if k=4 then (if j=4 then p else none)else if sm then some b else none) w):=by
 have K:∀o p,ap w ((w.alloc o).alloc p):=λo p=>(aV _ _).alloc (by simp) _;have f:=av K;clear K;by_cases i:k=6
 ·rw[if_pos i];subst i;go_enter func227,ntmps227;go_wp2_with fail
  go_ret
  exact⟨rfl,dl (f _ _) _,λA e=>by obtain rfl:=aI e;exact H.below (f _ _)⟩
 rw[if_neg i];have R:(k==6)=false:=by simpa using i
 by_cases d:k=5
 ·rw[if_pos d];have N:=av (q d);have Q:(k==5)=true:=by simpa using d
  clear d i q;go_enter func227,ntmps227;go_wp2_with fail;refine(N _ (f _ _)).mono ?_;rintro e w1 n;have x:=av (fh.from (dl (f _ _) _) n);obtain⟨rfl,_,_⟩:=n;go_wp2_with fail
  go_ret
  exact x
 rw[if_neg d];have Q:(k==5)=false:=by simpa using d
 by_cases h:k=4
 ·rw[if_pos h];have O:(k==4)=true:=by simpa using h
  clear d i q;by_cases m:j=4
  ·rw[if_pos m];have P:(j==4)=true:=by simpa using m
   clear h m;go_enter func227,ntmps227;go_wp2_with fail;refine(G _ (f _ _)).mono ?_;rintro e w1 n;have x:=av (fh.from (dl (f _ _) _) n);obtain⟨rfl,_,_⟩:=n;go_wp2_with fail
   all_goals go_ret
   all_goals exact x
  ·rw[if_neg m];have P:(j==4)=false:=by simpa using m
   clear h m;go_enter func227,ntmps227;go_wp2_with fail
   go_ret
   exact⟨rfl,dl (f _ _) _,λA e=>by cases e⟩
 rw[if_neg h];have O:(k==4)=false:=by simpa using h
 clear h d i q G;obtain⟨L,B⟩:∃L,L=if sm then some b else none:=⟨_,rfl⟩
 rw[<-B];have F:=av B;clear B;go_enter func227,ntmps227;go_wp2_with fail;refine(M _ (f _ _)).mono ?_;rintro e w1 ⟨r,rfl,I,J⟩;have z:Hid (ap w w1):=(f _ _).trans (J.mono (f _ _).size);have y:=av F.out;rw[Hid,<-I.out]at y;clear J I F;cases h0:r==0
 ·go_wp2_with fail
  go_ret
  have d:=y;rw[h0]at d;simp only[p7,if_false]at d;subst d;exact⟨rfl,dl z _,λA e=>by cases e⟩
 ·go_wp2_with fail
  go_ret
  have d:=y;rw[h0]at d;simp only[cC]at d;subst d;exact⟨rfl,dl z _,λA e=>by obtain rfl:=aI e;exact H.below z⟩
theorem O6(n:Nat)(p:Tm (n+1))(m:Nat)(t:Tm (m+1))(b:List An):jb (n+1) p (m+1) t b=if p.1.1=6 then some b else if p.1.1=5 then vV b p.1.2.1.toNat ⟨m+1,t⟩else if p.1.1=4 then (if t.1.1=4 then (if p.2.2.length=t.2.2.length then jQ (λx y b=>jb n x m y b) p.2.2 t.2.2 b else none)else none)else if aJ (n+1) p (m+1) t then some b else none:=by
 simp only[jb];by_cases a:t.1.1=4<;>by_cases c:p.2.2.length=t.2.2.length<;>simp[a,c]
theorem PA(n:Nat)(p:Tm (n+1))(d:aL ⟨n+1,p⟩)(e:p.1.1=5):∃k:Nat,k<4/\p.1.2.1=k:=by
 have a:=d (bQ n p) (by simp[aH,bQ]);have b:(bQ n p).1.1=5:=e;have c:(bQ n p).1.2.1=p.1.2.1:=rfl;simp[cM,b,qX]at a;rw[c]at a;exact⟨p.1.2.1.toNat,by omega,by omega⟩
theorem KM(n:Nat):OH n:=by
 induction n with
 | zero=>intro e j t b s u c l y d;exact d.elim
 | succ n ih=>
  intro e j t b s u c l y d v w x i z r;cases j with
  | zero=>exact v.elim
  | succ j=>
  have f:l<=y.heap.size:=by have:=r.lt;omega
  have C:=d;have H:=v;obtain⟨⟨_,_,_,I,D⟩,E⟩:=C;obtain⟨⟨_,_,_,J,F⟩,G⟩:=H;unfold maxLen at D F;rw[O6];refine Ib e.1.1 e.1.2.1 t.1.1 t.1.2.1 e.1.2.2 t.1.2.2 e.2.1.1 t.2.1.1 e.2.2.length t.2.2.length e.2.1.2 t.2.1.2 s u c b _ _ _ y r ?_ ?_ ?_
  ·intro A q a;obtain⟨k,B,m⟩:=PA n e w A;rw[m];exact KQ b s u c l q k B j t (i.below (a.mono f)) (v.below (a.mono f)) x z (r.below a)
  ·intro q a;refine Es n j ih e.2.2 t.2.2 e.2.1.1 t.2.1.1 e.2.1.2 t.2.1.2 b s u c l q ?_ ?_ (by omega) (by omega) (λh g=>bt n e h w g) (λh g=>bt j t h x g) (i.below (a.mono f)) z (r.below a)
   ·rcases E with d|⟨b,o,m,i,d⟩
    ·exact ak d
    ·exact am ⟨b,o,m,i,λp h g=>⟨(d p h g).1.below (a.mono f) i,(d p h g).2.below (a.mono f)⟩⟩
   ·rcases G with d|⟨b,o,m,i,d⟩
    ·exact ak d
    ·exact am ⟨b,o,m,i,λp h g=>⟨(d p h g).1.below (a.mono f) i,(d p h g).2.below (a.mono f)⟩⟩
  ·intro q a;exact CS ⟨n+1,e⟩ ⟨j+1,t⟩ l q (d.below (a.mono f)) (v.below (a.mono f)) (aF f a.size) w x
def oP(n:Nat)(q:List (Tm n)):List An:=q.map λx=>⟨n,x⟩
theorem nU(n:Nat)(q:List (Tm n)):(oP n q).length=q.length:=by simp[oP]
theorem EA{q:List (Tm n)}{w:ah}{po:Nat}(p:∀(i:Nat)(y:Tm n),q[i]?=some y->eg w u (po+i*4) n y):∀j b,(gq (oP n q))[j]?=some b->w.cell? ((⟨u,po,none⟩:Addr).add j)=some b:=by
 intro j b a;have d:=lO (oP n q);have r:j<q.length*4:=by
  rw[nU]at d;rw[<-d];exact(bi.1 a).1
 obtain⟨k,i,o,rfl⟩:∃k i,i<4/\j=k*4+i:=⟨j / 4,j % 4,Nat.mod_lt _ (by decide),by omega⟩;obtain⟨y,e⟩:∃y,q[k]?=some y:=⟨q[k]'(by omega),aU _⟩;have f:(gq (oP n q))[k*4+i]?=(wL (uo ⟨n,y⟩))[i]? :=jj _ k (uo ⟨n,y⟩) (by simp[oP,e]) i o;rw[f]at a;have c:=p k y e;cases n with
 | zero=>exact c.elim
 | succ n=>
 obtain⟨g,h,l,m⟩:=c;rw[eS,<-Nat.add_assoc];have:i=0\/i=1\/i=2\/i=3:=by omega
 rcases this with rfl|rfl|rfl|rfl
 all_goals simp[wL,uo,gL,bQ]at a;subst a
 ·exact g
 ·exact h
 ·exact l
 ·exact m
theorem D5(n:Nat)(q:List (Tm n))(len l po pc:Nat)(w:ah)(o:Hid (q.length=len))(E:0<len)(F:len<=1048576)(x:Hid (∀w1,ap w w1->∀j t,(gq (oP n q))[j]?=some t->w1.cell? ((⟨l,po,none⟩:Addr).add j)=some t)):au 226 #[ag (some ⟨l,po,none⟩) len pc] w λe w'=>∃g c,e=aw (ag (some ⟨g,0,none⟩) len c)/\Hid (ap w w'/\nS w.heap.size g c (oP n q) w'):=by
 obtain⟨B,hit,p,r,s⟩:=bS gM;have a:=av (⟨hit,p,r,s⟩:_/\_/\_/\_);clear hit p r s;have H:∀(w:ah)(b:ay)(n c i f:Nat),(binOp .eql 52 (ag b n c) (ag none i f)).run Tryz.prog w=.ok (.bool b.isNone) w:=λw b n c i f=>Lib.run_eql_slice_nil w _ _ b n c i f underlying52;go_enter func226,ntmps226;go_wp2_with (at_builtin;refine wpList_append_own _ rfl _ _ 52 rfl w.heap.size 54 B _ 4 56 underlying52 a.1 a.2.1 a.2.2.1 a.2.2.2 rfl (by decide) _ _ _ rfl (World.ownsRow_made w #[] 0 (aA _) (aM _) (by simp)) ⟨l,po,none⟩ len pc (gq (oP n q)) rfl ?qc1 ?qc2 ?qc3 ?qc4 ?qc5 ?qc6 ?_)
 case qc1=>rw[lO,nU,o.out]
 case qc2=>exact x _ (aV _ _)
 case qc3=>exact Bq _
 case qc4=>unfold maxLen;omega
 case qc5=>omega
 case qc6=>simp
 intro C w1 h m A;have u:Hid (∃g c,C=ag (some ⟨g,0,none⟩) len c/\ap w w1/\nS w.heap.size g c (oP n q) w1):=by
  have y:ap w w1:=Below.grown (aV _ _) m (by simp) (by intro k z;simp[Value.ownBlock]at z;omega);have d:=h;obtain⟨_,d⟩:=d;rcases d with⟨_,d⟩|⟨g,cap,D,rfl,G,_⟩
  ·omega
  ·refine⟨g,cap,rfl,y,?_⟩;unfold nS;rw[nU,o.out];exact h
 clear h m A;obtain⟨g,c,rfl,v⟩:=u;go_wp2_with fail
 go_ret
 exact⟨g,c,rfl,v⟩
def uI(a b:Int)(cl bd:Bool):Int:=if a=0 then if b=0 then if cl && bd then 0 else 5 else b else a
def zG(a:Int)(o:Option (List An))(w:ah)(e:Ending)(w':ah):Prop:=
 ∃f len c d,e=aw (ax #[ag f len c,.bool d,ae a])/\Hid (ap w w'/\
  ((¬(a=0/\o.isSome=true)->len=0/\d=false)/\∀b,a=0->o=some b->d=true/\len=4/\b.length=4/\∃g l,w.heap.size<=g.heap.size/\ig (nQ b) (DA b) g w' f c l))
def OD(w:ah)(v0 v1 v2 v3 a b c d:az)(w':ah):Prop:=
 ap w w'/\w.heap.size+2<=w'.heap.size/\
 (w'.cell? ⟨w.heap.size,0,none⟩=some v0/\w'.cell? ⟨w.heap.size,1,none⟩=some v1/\w'.cell? ⟨w.heap.size,2,none⟩=some v2/\w'.cell? ⟨w.heap.size,3,none⟩=some v3)/\
 (w'.cell? ⟨w.heap.size+1,0,none⟩=some a/\w'.cell? ⟨w.heap.size+1,1,none⟩=some b/\w'.cell? ⟨w.heap.size+1,2,none⟩=some c/\w'.cell? ⟨w.heap.size+1,3,none⟩=some d)
theorem OD.new(w:ah)(v0 v1 v2 v3 a b c d:az)(t e:TypeId):OD w v0 v1 v2 v3 a b c d ((w.alloc (.cells #[v0,v1,v2,v3] t)).alloc (.cells #[a,b,c,d] e)):=
 ⟨(aV _ _).alloc (by simp) _,by simp,⟨by simp[go_sem],by simp[go_sem],by simp[go_sem],by simp[go_sem]⟩,by simp[go_sem],by simp[go_sem],by simp[go_sem],by simp[go_sem]⟩
theorem OD.next{w:ah}{w1 w2:ah}(a:OD w v0 v1 v2 v3 l A C F w1)(b:ap w1 w2):OD w v0 v1 v2 v3 l A C F w2:=
 ⟨a.1.trans (b.mono a.1.size),aF a.2.1 b.size,oT (by have:=a.2.1;omega) b a.2.2.1,oT (by have:=a.2.1;omega) b a.2.2.2⟩
theorem EO(w:ah)(k G z D:Int)(s C:aq)(a n:ay)(l pc A B:Nat)(W:ay)(Y X:Nat)(i j:Int)(cl bd:Bool)(o:Option (List An))(T:List An)(ao:Hid (∀w1,ap w w1->au 53 #[.agg #[ae k,ae G,af s,ag a l pc]] w1 λe w'=>e=aw (ae i)/\ap w1 w'))(ar:Hid (∀w1,ap w w1->au 53 #[.agg #[ae z,ae D,af C,ag n A B]] w1 λe w'=>e=aw (ae j)/\ap w1 w'))(al:Hid (∀w1,ap w w1->au 132 #[.agg #[ae z,ae D,af C,ag n A B]] w1 λe w'=>e=aw (.bool cl)/\ap w1 w'))(ai:Hid (∀w1,ap w w1->au 225 #[ag W Y X] w1 λe w'=>e=aw (.bool bd)/\ap w1 w'))(am:Hid (bd=true->∀w1,ap w w1->au 226 #[ag W Y X] w1 λe w'=>∃g c,e=aw (ag (some ⟨g,0,none⟩) 4 c)/\Hid (ap w1 w'/\nS w1.heap.size g c T w')))(S:Hid (uI i j cl bd=0->∀w1 base g c,ap w w1->w.heap.size<=base->nS base g c T w1->au 227 #[ag (some ⟨g,0,none⟩) 4 c,.agg #[ae k,ae G,af s,ag a l pc],.agg #[ae z,ae D,af C,ag n A B]] w1 (fh base g c o w1)))(R:Hid (uI i j cl bd=0->∀w1 base g c b,o=some b->ap w w1->nS base g c b w1->b.length=4/\au 133 #[ag (some ⟨g,0,none⟩) 4 c] w1 λe w'=>∃n aC l,e=aw (ag n 4 aC)/\Hid (ig (nQ b) (DA b) w1 w' n aC l))):au 202 #[.agg #[ae k,ae G,af s,ag a l pc],.agg #[ae z,ae D,af C,ag n A B],ag W Y X] w (zG (uI i j cl bd) o w):=by
 obtain⟨f,V⟩:∃f,f=uI i j cl bd:=⟨_,rfl⟩;rw[<-V]at S R ⊢;have q:=av V;clear V;go_enter func202,ntmps202;go_wp2_with fail;refine(ao _ (OD.new w _ _ _ _ _ _ _ _ _ _).1).mono ?_;rintro e w1 ⟨rfl,aG⟩;have t:=av ((OD.new w (ae k) (ae G) (af s) (ag a l pc) (ae z) (ae D) (af C) (ag n A B) 54 54).next aG);clear aG ao;by_cases m:i=0
 case neg=>
  have aO:(i !=0)=true:=by simpa using m
  have d:Hid (f=i/\¬f=0):=by have:=q.out;unfold uI at this;rw[if_neg m]at this;exact⟨this,by rw[this];exact m⟩
  clear m q;go_wp2_with fail;exact aD (v:=ax #[ag none 0 0,.bool false,ae i]) (by simp[results,results202,go_sem]) rfl ⟨none,0,0,false,by rw[d.out.1],t.1,λ_=>⟨rfl,rfl⟩,λb h=>absurd h d.2⟩
 have aO:(i !=0)=false:=by simp[m]
 obtain⟨⟨L,M,N,O⟩,H,I,J,K⟩:=t.out.2.2;go_wp2_with fail;refine(ar _ t.1).mono ?_;rintro e aT ⟨rfl,aH⟩;have u:=av (t.next aH);clear aH ar t L M N O H I J K;by_cases p:j=0
 case neg=>
  have aP:(j !=0)=true:=by simpa using p
  have d:Hid (f=j/\¬f=0):=by have:=q.out;unfold uI at this;rw[if_pos m,if_neg p]at this;exact⟨this,by rw[this];exact p⟩
  clear p m q;go_wp2_with fail;exact aD (v:=ax #[ag none 0 0,.bool false,ae j]) (by simp[results,results202,go_sem]) rfl ⟨none,0,0,false,by rw[d.out.1],u.1,λ_=>⟨rfl,rfl⟩,λb h=>absurd h d.2⟩
 have aP:(j !=0)=false:=by simp[p]
 have r:Hid (f=if cl && bd then 0 else 5):=by have:=q.out;unfold uI at this;rw[if_pos m,if_pos p]at this;exact this
 clear p m q;obtain⟨⟨L,M,N,O⟩,H,I,J,K⟩:=u.out.2.2;go_wp2_with fail;refine(al _ u.1).mono ?_;rintro e aU ⟨rfl,aJ⟩;have E:=av (u.next aJ);clear aJ al u L M N O H I J K;cases cl with
 | false=>
  have d:Hid (f=5/\¬f=0):=by have:=r.out;simp at this;exact⟨this,by rw[this];decide⟩
  clear r;go_wp2_with fail;exact aD (v:=ax #[ag none 0 0,.bool false,ae 5]) (by simp[results,results202,go_sem]) rfl ⟨none,0,0,false,by rw[d.out.1],E.1,λ_=>⟨rfl,rfl⟩,λb h=>absurd h d.2⟩
 | true=>
 go_wp2_with fail;refine(ai _ E.1).mono ?_;rintro e Z ⟨rfl,aK⟩;have x:=av (E.next aK);clear aK ai E;cases bd with
 | false=>
  have d:Hid (f=5/\¬f=0):=by have:=r.out;simp at this;exact⟨this,by rw[this];decide⟩
  clear r;go_wp2_with fail;exact aD (v:=ax #[ag none 0 0,.bool false,ae 5]) (by simp[results,results202,go_sem]) rfl ⟨none,0,0,false,by rw[d.out.1],x.1,λ_=>⟨rfl,rfl⟩,λb h=>absurd h d.2⟩
 | true=>
 have d:Hid (f=0):=by have:=r.out;simp at this;exact this
 have az:=av (S d);have aj:=av (R d);have an:=av (am rfl);clear r S R am;go_wp2_with fail;refine(an _ x.1).mono ?_;rintro e aL ⟨g,c,rfl,Q⟩;have P:=av (x.next Q.1);have F:Hid (nS Z.heap.size g c T aL):=Q.2;have aA:Hid (w.heap.size<=Z.heap.size):=x.1.size;obtain⟨⟨L,M,N,O⟩,H,I,J,K⟩:=P.out.2.2;clear x Q an;go_wp2_with fail;refine(az aL Z.heap.size g c P.1 aA F).mono ?_;rintro e aa U;have y:Hid (ap w aa):=P.1.trans (oZ U.2.1 (aF aA F.lt.1) F.lt.2);have ab:=av U.2.2;obtain⟨rfl,_,_⟩:=U;clear F az;cases o with
 | none=>
  simp only[nP];go_wp2_with fail;exact aD (v:=ax #[ag none 0 0,.bool false,ae 0]) (by simp[results,results202,go_sem]) rfl ⟨none,0,0,false,by rw[d.out],y,λ_=>⟨rfl,rfl⟩,λb _ h=>by cases h⟩
 | some b=>
  simp only[lI];have aN:=av (ab b rfl);have ak:=av (aj aa _ g c b rfl y aN);clear ab aj;go_wp2_with fail;refine ak.2.mono ?_;rintro e aR ⟨aB,aE,aQ,rfl,ad⟩;have aM:Hid (ap w aR):=y.trans (ad.1.mono y.size);go_wp2_with fail;exact aD (v:=ax #[ag aB 4 aE,.bool true,ae 0]) (by simp[results,results202,go_sem]) rfl ⟨aB,4,aE,true,by rw[d.out],aM,λh=>absurd ⟨d,rfl⟩ h,λaS _ e=>by obtain rfl:=aI e;exact⟨rfl,rfl,ak.1,aa,aQ,y.size,ad⟩⟩
theorem ym{e:Int}{cl:Bool}(a:uI x e cl bd=0):x=0/\e=0/\cl=true/\bd=true:=by
 unfold uI at a;split at a
 ·split at a
  ·split at a
   ·rename_i b c d;simp at d;exact⟨b,c,d.1,d.2⟩
   ·cases a
  ·rename_i b c;exact absurd a c
 ·rename_i b;exact absurd a b
theorem BA{q:List (Tm n)}(a:gG n q=true):q.length=4:=by
 unfold gG at a;simp at a;exact a.1
theorem Hb{q:List (Tm n)}(a:gG n q=true):∀y∈oP n q,aL y:=by
 intro y c;simp only[oP,cd]at c;obtain⟨d,e,rfl⟩:=c;unfold gG at a;simp only[aS,cY]at a;have b:=a.2 d e;unfold CP at b;simp only[aS,cT]at b;exact mV n d b.1
theorem Nw{w:ah}{q:List (Tm n)}(c:fU B w n q a):∀y∈oP n q,GW B w y:=by
 intro y e;simp only[oP,cd]at e;obtain⟨h,d,rfl⟩:=e;rcases c with c|⟨b,o,_,_,c⟩
 ·rw[c]at d;cases d
 ·obtain⟨g,f⟩:=di d;exact(c g h f).2
theorem Cv{w:ah}{q:List (Tm n)}(d:fU B w n q a)(k:gG n q=true):DO B w (oP n q):=
 ⟨by rw[nU];exact BA k,λc b=>⟨Nw d c b,Hb k c b⟩⟩
theorem yA(n m o:Nat)(p:Tm n)(t:Tm m)(q:List (Tm o))(a:ay)(c B:Nat)(w:ah)(A:In B w n p)(j:In B w m t)(g:fU B w o q a)(e:B<=w.heap.size)(I:(aH n p).length<=2097152)(K:(aH m t).length<=2097152)(J:∀y∈q,(aH o y).length<=2097152)(R:q.length<=9223372036854775807):au 202 #[dF n p,dF m t,ag a q.length c] w (zG (uI (bK n p) (bK m t) (kQ m t) (gG o q)) (jb n p m t (oP o q)) w):=by
 cases n with
 | zero=>exact A.elim
 | succ n=>
 cases m with
 | zero=>exact j.elim
 | succ m=>
 refine EO w p.1.1 p.1.2.1 t.1.1 t.1.2.1 p.1.2.2 t.1.2.2 p.2.1.1 t.2.1.1 p.2.2.length p.2.1.2 t.2.2.length t.2.1.2 a q.length c _ _ _ _ _ (oP o q) ?_ ?_ ?_ ?_ ?_ ?_ ?_
 ·exact λf d=>dW (n+1) p B f (A.below (d.mono e)) (aF e d.size) I
 ·exact λf d=>dW (m+1) t B f (j.below (d.mono e)) (aF e d.size) K
 ·intro f d;rw[<-fQ];exact ja (m+1) t B f (j.below (d.mono e)) (aF e d.size)
 ·exact λf d=>Bv o q a c B f (g.below (d.mono e)) R J (aF e d.size)
 ·intro M f d;have k:=BA M;rcases g with g|⟨T,po,rfl,F,g⟩
  ·rw[g]at k;simp at k
  ·have l:=D5 o q 4 T po c f k (by decide) (by decide) (λV H=>EA λS y h=>((g S y h).1.below (d.mono e) F).below (H.mono (aF e d.size)) F);rw[k];exact l
 ·intro x f C v r d L z;obtain⟨D,s,G,u⟩:=ym x;exact KM (n+1) p (m+1) t (oP o q) C v r B f (A.below (d.mono e)) (j.below (d.mono e)) (mV _ _ D) (mV _ _ s) ((Cv g u).below (d.mono e)) (aF e L) z
 ·intro x f C v r b N d z;obtain⟨D,s,G,u⟩:=ym x;have i:=((Cv g u).fit j (mV _ _ s) N).below (d.mono e);have P:=Mn z (λy h=>(i.2 y h).1) (aF e d.size);have Q:(DA b).length=4:=by simp[DA,i.1]
  have l:=ua (nQ b) (iC _) (DA b) (some ⟨v,0,none⟩) r f.heap.size f P (by omega) (JH λy h=>⟨(i.2 y h).2,λE=>by
   have O:=(i.2 y h).1;obtain⟨U,W⟩:=y;simp only at E;subst E
   exact O.elim⟩) (aA _)
  rw[Q]at l;exact⟨i.1,l⟩
theorem zS{x:Tm (n+1)}(a:aX (n+1) x=true):x.1.1≠5/\x.1.1≠6/\∀y∈x.2.2,aX n y=true:=by
 simp only[aX,aS,p8,cY]at a;exact⟨by simpa using a.1.1,by simpa using a.1.2,a.2⟩
def DS(D:Nat)(l:List (Tm D))(d:List An):Prop:=∀(i:Nat)(a:An),d[i]?=some a->∃y,l[i]?=some y/\aJ D y a.1 a.2=true/\aL ⟨D,y⟩
theorem vd{c:Type}(f:c->Int)(b:∀x,0<=f x):(p:List c)->(y:c)->y∈p->f y<=(p.map f).sum/\0<=(p.map f).sum
 | [],y,a=>by cases a
 | x::p,y,a=>by
  have g:=b x;have e:0<=(p.map f).sum:=by
   cases p with
   | nil=>simp
   | cons d p=>exact(vd f b (d::p) d (by simp)).2
  simp only[bA,dj];rcases cq.1 a with rfl|a
  ·omega
  ·have:=vd f b p y a;omega
theorem Gj{a:Type}(f:a->Int):(p:List a)->(i:Int)->i<=p.foldl (λm y=>max m (f y)) i
 | [],_=>kj _
 | x::p,i=>by
  simp only[gg];have:=Gj f p (max i (f x));omega
theorem CE{b:Type}(f:b->Int):(p:List b)->(i:Int)->(y:b)->y∈p->f y<=p.foldl (λm y=>max m (f y)) i
 | [],_,y,a=>by cases a
 | x::p,i,y,a=>by
  simp only[gg];rcases cq.1 a with rfl|a
  ·have:=Gj f p (max i (f y));omega
  ·exact CE f p _ y a
theorem vB{x:Tm n}:bK n x=0 ↔ cv n x=true/\gJ n x<=12/\sz n x<=200:=by
 rw[<-gN];unfold xO;constructor
 ·intro a;split at a
  ·rename_i c;split at a
   ·cases a
   ·rename_i f;exact⟨c,by omega,by omega⟩
  ·cases a
 ·rintro ⟨b,d,e⟩;rw[if_pos b,if_neg (by omega)]
def DR(a:An):Prop:=bK a.1 a.2=0/\(ci a=6\/aX a.1 a.2=true)
theorem pi:vo DR:=by
 intro n b a h c;obtain⟨i,d⟩:=h;obtain⟨f1,f2,f3⟩:=vB.1 i;have f:aL ⟨n+1,b⟩:=aY.2 f1;have g:=eX (bQ n b) (f (bQ n b) (by simp[aH,bQ]));have e:b.1.1=4:=by
  by_cases e:b.1.1=4
  ·exact e
  ·have:b.2.2=[]:=b8 (g.2.2.2.2 e);rw[this]at c;cases c
 have k:=vd (λa=>1+sz n a) (λa=>by have:=(fI n a).1;omega) b.2.2 a c;have j:=CE (λa=>gJ n a) b.2.2 0 a c;simp only[sz,gJ,if_pos e]at f2 f3;refine⟨vB.2 ⟨aY.1 (bt n b a f c),by simp only at j ⊢;omega,by simp only at k ⊢;omega⟩,am ?_⟩;rcases d with d|d
 ·simp only[ci]at d;omega
 ·exact(zS d).2.2 a c
theorem zq{D:Nat}{l:List (Tm D)}{c:List An}(g:∀y∈c,DR y)(h:l.length=4)(n:c.length=4)(j:DS D l c):gG D l=true:=by
 unfold gG;rw[h];simp only[decide_true,eT,cY];intro y k;obtain⟨a,e⟩:=di k;have i:a<c.length:=by have:=(bi.1 e).1;omega
 obtain⟨o,f,d,_⟩:=j a c[a] (aU i);rw[e]at f;obtain rfl:=aI f;obtain⟨m,b⟩:=g c[a] (gh _);unfold CP;rw[bO d,m,lm d,<-fQ,cG _ _ _ _ d];rcases b with b|b
 ·have:ci (⟨(c[a]).1,(c[a]).2⟩:An)=6:=b;rw[this];rfl
 ·rw[b];simp
theorem Gi{w1 w':ah}{l:List (Tm (nQ b))}(q:ig (nQ b) (DA b) w1 w' a c l)(j:∀y∈b,aL y)(r:b.length=4):fU w'.heap.size w' (nQ b) l a/\l.length=4/\DS (nQ b) l b/\∀y∈l,aL ⟨nQ b,y⟩:=by
 obtain⟨E,F,G,H,A,f⟩:=q;have D:(DA b).length=4:=by simp[DA,r]
 have t:fU w'.heap.size w' (nQ b) l a:=by
  rcases f with f|⟨B,o,p,C,v,f⟩
  ·exact ak f
  ·exact am ⟨B,o,p,v,λd y i=>⟨(f d y i).1,(f d y i).2.1⟩⟩
 have m:DS (nQ b) l b:=by
  intro d e h;have g:d<l.length:=by have:=(bi.1 h).1;omega
  have z:(DA b)[d]?=some (bj (nQ b) e.1 e.2):=by simp[DA,h]
  have x:=jZ _ _ _ A d l[d] _ (aU g) z;have u:=fR (nQ b) e.1 (A2 b e (aT h)) e.2 (j e (aT h));have k:=bV _ _ _ _ _ _ x u;exact⟨l[d],aU g,k,aY.2 (by rw[j0 _ _ _ _ k];exact aY.1 (j e (aT h)))⟩
 refine⟨t,by omega,m,λy i=>?_⟩;obtain⟨d,g⟩:=di i;have s:d<b.length:=by have:=(bi.1 g).1;omega
 obtain⟨I,n,_,w⟩:=m d b[d] (aU s);rw[g]at n;obtain rfl:=aI n;exact w
def fF:Tm 1:=((6,0,.empty),(none,0),[])
theorem OW(B:Nat)(w:ah):In B w 1 fF:=⟨⟨by simp[fF,dn],by simp[fF,dn],aM _,by simp[fF],by simp[fF]⟩,ak rfl⟩
theorem P8:cv 1 fF=true:=by
 have:(ByteArray.empty).toList=[]:=by rw[cD];rfl
 simp[cv,fF,cM,bQ,this]
theorem d1(x:Tm 1)(a:x.1.1≠4):gJ 1 x=0/\sz 1 x=0:=by simp[gJ,sz,a]
theorem zO:bK 1 fF=0:=by
 rw[vB];have a:=d1 fF (by simp[fF]);exact⟨P8,by rw[a.1];decide,by rw[a.2];decide⟩
theorem Kf:gG 1 (List.replicate 4 fF)=true:=by
 have:CP 1 fF=true:=by
  unfold CP;rw[zO];rfl
 unfold gG;simp only[List.length_replicate,decide_true,eT,cY];intro b a;rw[List.eq_of_mem_replicate a];exact this
theorem CK(w:ah):au 203 #[] w λe w'=>e=aw (ag (some ⟨w.heap.size,0,none⟩) 4 4)/\Hid (ig 1 (List.replicate 4 fF) w w' (some ⟨w.heap.size,0,none⟩) 4 (List.replicate 4 fF)):=by
 obtain⟨z,hit,p,q,r⟩:=bS gM;go_enter func203,ntmps203;go_wp2_with (at_make;refine lM _ rfl _ _ 52 rfl w.heap.size 54 z _ 4 underlying52 hit p q _ _ _ _ 4 rfl rfl rfl rfl (by rw[r];omega) (by unfold maxLen;omega) (aA _) ?_;intro B o b);have i:=av (rZ 1 (List.replicate 4 fF) 4 o);have h:Hid (ap w B):=⟨b.os,b.tape,b.output,b.size,λk l=>b.block k l (by simp)⟩;clear o b hit p q r;go_loopw [6] (λd wr=>∃k:Nat,k<=4/\d=ae k/\Hid (ap w wr/\vn 1 (List.replicate 4 fF) 4 w.heap.size k (List.replicate k fF) wr)) (λd _=>4-(intOf d).toNat)
 case atStart=>exact⟨0,by omega,rfl,h,i⟩
 case round=>
  obtain⟨k,l,rfl,a⟩:=hrel;clear i h;by_cases m:k<4
  ·have s:(List.replicate 4 fF)[k]?=some fF:=by rw[List.getElem?_replicate,if_pos m]
   have j:In wr.heap.size wr 1 fF:=OW _ _;have n:cF (λf=>w.heap.size<f) 1 fF:=by simp[cF,fF]
   have x:=av (a.2.step m fF s (aG _ _) fF j n (by simp[aJ,fF,aN]));have u:Hid (ap w (jX wr w.heap.size (k*4) (gL 1 fF))):=by
    have c:=a.1;exact⟨c.os,c.tape,c.output,aF c.size (cR (bJ _ _ _ _).symm),λf y=>(bw (by omega) _ _ _ _).trans (c.block f y)⟩
   obtain⟨g,t⟩:∃g,((List.replicate k fF).map (λC=>(⟨1,C⟩:An))++List.replicate (4-k) zA)[k]?=some g:=⟨_,aU (by simp;omega)⟩;obtain⟨D,E,F,G⟩:=a.out.2.2.1.cells k g t;have H:=λA=>a.2.2.1.free A;have I:(0:Int)<=(k:Int):=by omega
   have J:(k:Int)<4:=by omega
   have K:(k:Int)<=4:=by omega
   clear s j n t a;go_wp2_with fail;go_roundw
   case rel=>
    refine⟨k+1,by omega,by go_num,u,?_⟩;have e:List.replicate (k+1) fF=List.replicate k fF++ [fF]:=List.replicate_succ';rw[e];exact x
   case measure=>simp[intOf];omega
  ·obtain rfl:k=4:=by omega
   have v:=av (a.2.done rfl (by omega) a.1 (by unfold maxLen;omega));go_wp2_with fail
   go_ret
   exact⟨rfl,v⟩
structure bH (S:Nat->Prop) (w w':World):Prop where
 os:w'.os=w.os
 tape:w'.tape=w.tape
 output:w'.output=w.output
 size:w.heap.size<=w'.heap.size
 block:∀b,b<w.heap.size->¬S b->w'.heap[b]?=w.heap[b]?
theorem bH.refl(S:Nat->Prop)(w:World):bH S w w:=⟨rfl,rfl,rfl,aA _,λ_ _ _=>rfl⟩
theorem bH.trans{S T:Nat->Prop}{w w1 w2:World}(a:bH S w w1)(k:bH T w1 w2)(e:∀b,b<w.heap.size->T b->S b):bH S w w2:=
 ⟨k.os.trans a.os,k.tape.trans a.tape,k.output.trans a.output,aF a.size k.size,λb c d=>(k.block b (bf c a.size) (λf=>d (e b c f))).trans (a.block b c d)⟩
theorem bH.mono{T:Nat->Prop}(a:bH S w w1)(d:∀b,b<w.heap.size->S b->T b):bH T w w1:=⟨a.os,a.tape,a.output,a.size,λb c e=>a.block b c λk=>e (d b c k)⟩
theorem aO(a:Below w.heap.size w w')(S:Nat->Prop):bH S w w':=⟨a.os,a.tape,a.output,a.size,λb c _=>a.block b c⟩
theorem ew(a:w.grownBy w' row):bH (λb=>row=some b) w w':=⟨a.os,a.tape,a.output,a.size,λb c d=>a.block b c λe=>d e.symm⟩
theorem bN(w:World)(q o:Nat)(v:Value):bH (λb=>b=q) w (w.setCell ⟨q,o,none⟩ v):=
 ⟨rfl,rfl,rfl,by simp[World.setCell],λb _ c=>by
  have:q≠b:=λa=>c a.symm
  simp[World.setCell,bR,this]⟩
theorem bH.below(a:bH S w w')(e:B<=w.heap.size)(c:∀b,b<B->¬S b):Below B w w':=⟨a.os,a.tape,a.output,a.size,λb d=>a.block b (by omega) (c b d)⟩
theorem bH.cell{S:Nat->Prop}{w w':World}(a:bH S w w'){b:Nat}(o:Nat)(d:b<w.heap.size)(c:¬S b):w'.cell? ⟨b,o,none⟩=w.cell? ⟨b,o,none⟩:=by
 simp only[World.cell?,a.block b d c]
theorem bC(c:w.ownsRow base e sz v n xs)(k:bH S w w')(h:∀b,v.ownBlock=some b->¬S b):w'.ownsRow base e sz v n xs:=by
 refine⟨c.1,?_⟩;rcases c.2 with⟨e,g⟩|⟨a,cap,f,e,i,d,j⟩
 ·exact ak ⟨e,g⟩
 ·exact am ⟨a,cap,f,e,i,(k.block a (aR.1 d).1 (h a (by rw[e];rfl))).trans d,j⟩
theorem eg.kee{S:Nat->Prop}{w w':World}(a:bH S w w'){b o:Nat}(d:b<w.heap.size)(c:¬S b):{n:Nat}->{x:Tm n}->eg w b o n x->eg w' b o n x
 | 0,_,k=>k
 | _+1,_,k=>by
  obtain⟨e,f,g,h⟩:=k;exact⟨(a.cell _ d c).trans e,(a.cell _ d c).trans f,(a.cell _ d c).trans g,(a.cell _ d c).trans h⟩
theorem In.kee{S:Nat->Prop}{w w':World}(d:bH S w w'):{n:Nat}->{x:Tm n}->In w.heap.size w n x->cF (λb=>¬S b) n x->In w'.heap.size w' n x
 | 0,_,k,_=>k
 | _+1,x,k,o=>by
  obtain⟨p,a⟩:=k;refine⟨p,?_⟩;rcases a with a|⟨b,f,e,h,a⟩
  ·exact ak a
  ·rcases o with o|⟨q,r,c,m,o⟩
   ·exact ak o
   ·rw[e]at c;injection c with c;injection c with j l;subst j l;exact am ⟨b,f,e,bf h d.size,λi y g=>⟨(a i y g).1.kee d h m,(a i y g).2.kee d (o i y g)⟩⟩
/-! ### the keys -/
theorem AD:WideMaps.ArrKey Tryz.prog 51 3 2:=⟨underlying51,by kernel_rfl,by kernel_rfl,by kernel_rfl⟩
theorem fC:Keyed Tryz.prog 51:=Keyed.of_law AD.law
theorem FM:∃m,Tryz.prog.types.size=m+1:=by
 have a:(Tryz.prog.types.size==0)=false:=by kernel_rfl
 have b:Tryz.prog.types.size≠0:=dL.1 a;exact⟨Tryz.prog.types.size-1,by omega⟩
def pk(k:Int×Int):Value:=.agg #[.int .i64 k.1,.int .i64 k.2]
def kl(k:Int×Int):Lit:=.string (keyBytes [.int .i64 k.1,.int .i64 k.2])
def I2(k:Int×Int):Prop:=dn k.1/\dn k.2
theorem Oy{a:Int}(b:dn a):(Lit.int .i64 a).wf=true:=iO (by unfold dn at b;omega)
theorem fZ(a:I2 k):keyOf Tryz.prog 51 (pk k)=some (kl k):=WideMaps.keyOf_pair AD underlying3 FM (Oy a.1) (Oy a.2)
theorem qY{b:Int×Int}(c:I2 k)(d:I2 b)(e:kl k=kl b):k=b:=by
 have a:=fC.inj (fZ c) (e▸fZ d);simp only[pk,Value.agg.injEq,Array.mk.injEq,lB,Value.int.injEq,true_and,gT]at a;exact iN a.1 a.2
def sI(v:Value):Option (DataW Value×List MemPlace):=some (.held v,[])
def iy{a:Type}(f:Int×Int->a)(k:Int×Int)(x:a):Int×Int->a:=λj=>if j=k then x else f j
theorem df(f:Int×Int->h)(k:Int×Int)(x:h):iy f k x k=x:=if_pos rfl
theorem cg(f:Int×Int->h)(x:h)(a:j≠k):iy f k x j=f j:=if_neg a
def ns:Value:=.slice none 0 0
def dM(N:Nat)(l:List (Tm N)):List Value:=cN (l.map (gL N))
theorem qC(N:Nat)(l:List (Tm N)):(dM N l).length=l.length*4:=by simp[dM,pd]
theorem qB(N:Nat)(l r:List (Tm N)):dM N (l++r)=dM N l++dM N r:=by simp[dM,wM]
def oS(base N:Nat)(v:Value)(l:List (Tm N))(w:World):Prop:=w.ownsRow base 54 4 v l.length (dM N l)
structure GM (base mb n N:Nat) (f:Int×Int->List (Tm N)) (sl:Int×Int->Value) (w:World):Prop where
 lo:base<=mb
 map:∃D,w.ownsMap Tryz.prog 51 sI mb n D/\(∀k,I2 k->D.atKey (kl k) (.held ns)=.held (sl k))/\∀x,has D x=true ↔∃k,I2 k/\x=kl k/\f k≠[]
 row:∀k,I2 k->oS base N (sl k) (f k) w
 apart:∀k j,I2 k->I2 j->k≠j->∀b,(sl k).ownBlock=some b->(sl j).ownBlock≠some b
def Ou(a:Nat)(sl:Int×Int->Value)(b:Nat):Prop:=b=a\/∃k,I2 k/\(sl k).ownBlock=some b
theorem eJ(d:w.ownsRow base e sz v n xs)(b:Nat)(c:v.ownBlock=some b):∃a,w.heap[b]?=some (.cells a e (0,0)):=by
 rcases d.2 with⟨rfl,_⟩|⟨g,cap,a,rfl,_,f,_⟩
 ·simp[Value.ownBlock]at c
 ·simp[Value.ownBlock]at c;subst c;exact⟨a,f⟩
variable {base mb n N:Nat} {f:Int×Int->List (Tm N)} {sl:Int×Int->Value} {w:World}
theorem GM.lt(a:GM base mb n N f sl w)(b:Nat)(c:Ou mb sl b):base<=b/\b<w.heap.size:=by
 rcases c with rfl|⟨k,e,c⟩
 ·obtain⟨g,d,_⟩:=a.map;exact⟨a.lo,d.lt⟩
 ·exact(a.row k e).lt b c
theorem GM.ne(a:GM base mb n N f sl w)(g:I2 k):(sl k).ownBlock≠some mb:=by
 intro d;obtain⟨c,b⟩:=eJ (a.row k g) mb d;obtain⟨h,⟨es,i,e,_⟩,_⟩:=a.map;rw[e]at b;cases b
theorem GM.kee(a:GM base mb n N f sl w)(k:bH S w w')(e:∀b,Ou mb sl b->¬S b):GM base mb n N f sl w':=by
 refine⟨a.lo,?_,λh g=>bC (a.row h g) k λb c=>e b (am ⟨h,g,c⟩),a.apart⟩;obtain⟨i,d,l⟩:=a.map;refine⟨i,?_,l⟩;have m:=d.lt;obtain⟨es,j,c,o⟩:=d;exact⟨es,j,(k.block mb m (e mb (ak rfl))).trans c,o⟩
theorem GM.mono(b:GM base mb n N f sl w){m:Nat}(i:n<=m):GM base mb m N f sl w:=by
 obtain⟨c,⟨a,d,e⟩,g,h⟩:=b;exact⟨c,⟨a,d.mono i,e⟩,g,h⟩
theorem GM.new(w:World)(N:Nat):GM w.heap.size w.heap.size 0 N (λ_=> []) (λ_=>ns) (w.alloc (.map #[] 0)):=
 ⟨aA _,⟨.map [],qm w _ _ _,λk _=>by simp[DataW.atKey],λe=>⟨λa=>by simp[has]at a,λ⟨k,_,_,a⟩=>absurd rfl a⟩⟩,
  λk _=>⟨by simp[dM,cN],ak ⟨rfl,rfl⟩⟩,λk d _ _ _ b c=>by simp[ns,Value.ownBlock]at c⟩
theorem oS.rebase{l:List (Tm N)}(a:oS base N v l w)(b:u<=base):oS u N v l w:=sF a b
theorem GM.rebase{b:Nat}(a:GM base mb n N f sl w)(c:b<=base):GM b mb n N f sl w:=
 ⟨aF c a.lo,a.map,λk d=>(a.row k d).rebase c,a.apart⟩
theorem LH{d:DataW Value}{ps:List MemPlace}(a:sI v=some (d,ps)):d=.held v:=by
 unfold sI at a;injection a with a;injection a with b c;exact b.symm
theorem sU(w:World):(zeroValue 52).run Tryz.prog w=.ok (.slice none 0 0) w:=by kernel_rfl
theorem GM.look(d:GM base mb n N f sl w)(b:I2 k):(Instr.lookup 132 (.map (some mb)) (pk k) false).run Tryz.prog w=.ok (sl k) w:=by
 obtain⟨i,e,g,_⟩:=d.map;obtain⟨j,ps,h,c⟩:=e.lookup fC underlying132 (sU w) (zd:=.held ns) (zp:=[]) rfl (fZ b);rw[g k b]at c;have a:=LH c;injection a with a;rw[h,a]
theorem IA(w:World)(b:I2 k):(Instr.lookup 132 (.map none) (pk k) false).run Tryz.prog w=.ok (.slice none 0 0) w:=by
 have a:=look_nil (P:=Tryz.prog) (w:=w) false fC underlying132 (sU w) (fZ b);simpa using a
theorem G3{D:DataW Value}(f:IsMap D)(e:I2 k)(b:I2 j)(v:Value)(c:DataW Value):(D.put (kl k) (.held v)).atKey (kl j) c=if j=k then .held v else D.atKey (kl j) c:=by
 by_cases a:j=k
 ·subst a;rw[if_pos rfl,atKey_put_same f (fC.key (fZ b))]
 ·rw[if_neg a,atKey_put_other λd=>a (qY b e d)]
theorem GM.put_of(h:GM base mb n N f sl w)(i:I2 k)(E:bH (λb=>b=mb\/(sl k).ownBlock=some b) w w1){l:List (Tm N)}(H:l≠[])(J:oS base N v l w1)(y:∀b,v.ownBlock=some b->(sl k).ownBlock=some b\/w.heap.size<=b)(x:bH (λb=>b=mb) w1 w2)(K:∀D,w.ownsMap Tryz.prog 51 sI mb n D->w2.ownsMap Tryz.prog 51 sI mb (n+1) (D.put (kl k) (.held v))):GM base mb (n+1) N (iy f k l) (iy sl k v) w2:=by
 obtain⟨D,j,C,t⟩:=h.map;have M:=j.lt;have I:∀b,v.ownBlock=some b->b≠mb:=λb e a=>by
  subst a;rcases y b e with a|a
  ·exact h.ne i a
  ·omega
 have z:∀c,I2 c->c≠k->∀b,(sl c).ownBlock=some b->v.ownBlock≠some b:=λc d G b e L=>by
  rcases y b L with a|a
  ·exact h.apart c k d i G b e a
  ·have:=((h.row c d).lt b e).2;omega
 refine⟨h.lo,⟨_,K D j,λc d=>?_,λB=>?_⟩,λc d=>?_,λp c u d o b=>?_⟩
 ·rw[G3 j.isMap i d];unfold iy;split
  ·rfl
  ·exact C c d
 ·constructor
  ·intro A;by_cases a:B=kl k
   ·exact⟨k,i,a,by rw[df];exact H⟩
   ·rw[has_put_other a]at A;obtain⟨c,d,s,m⟩:=(t B).1 A;refine⟨c,d,s,?_⟩;rw[cg _ _ λg=>a (by rw[s,g])];exact m
  ·rintro ⟨c,d,rfl,m⟩;by_cases a:c=k
   ·rw[a,has_put_same j.isMap (fC.key (fZ i))]
   ·rw[has_put_other λg=>a (qY d i g)];rw[cg _ _ a]at m;exact(t _).2 ⟨c,d,rfl,m⟩
 ·by_cases a:c=k
  ·subst a;rw[df,df];exact bC J x λb e a=>I b e a
  ·rw[cg _ _ a,cg _ _ a];refine bC (bC (h.row c d) E λb e g=>?_) x λb e g=>h.ne d (by rw[e,g]);rcases g with g|g
   ·exact h.ne d (by rw[e,g])
   ·exact h.apart c k d i a b e g
 ·by_cases q:p=k
  ·subst q;rw[df,cg _ _ λa=>o a.symm];exact λe F=>z c d (λa=>o a.symm) b F e
  ·rw[cg _ _ q];by_cases r:c=k
   ·subst r;rw[df];exact λe=>z p u o b e
   ·rw[cg _ _ r];exact h.apart p c u d o b
theorem jt(a:w.mapTurned w2 mb):bH (λb=>b=mb) w w2/\w2.heap.size=w.heap.size:=by
 refine⟨(ew a.grown).mono λb _ c=>(aI c).symm,?_⟩;obtain⟨_,_,_,_,_,rfl⟩:=a;simp[ChangeMaps.setBlock]
theorem GM.store(g:GM base mb n N f sl w){k:Int×Int}(h:I2 k){w1:World}(i:bH (λb=>(sl k).ownBlock=some b) w w1){v:Value}{l:List (Tm N)}(x:l≠[])(A:oS base N v l w1)(y:∀b,v.ownBlock=some b->(sl k).ownBlock=some b\/w.heap.size<=b)(F:n<1000000):∃w2,(Instr.mapUpdate 132 (.map (some mb)) (pk k) v).run Tryz.prog w1=.ok () w2/\GM base mb (n+1) N (iy f k l) (iy sl k v) w2/\bH (λb=>b=mb) w1 w2/\w2.heap.size=w1.heap.size:=by
 have p:∀a,w.ownsMap Tryz.prog 51 sI mb n a->∃w2,(Instr.mapUpdate 132 (.map (some mb)) (pk k) v).run Tryz.prog w1=.ok () w2/\w2.ownsMap Tryz.prog 51 sI mb (n+1) (a.put (kl k) (.held v))/\w1.mapTurned w2 mb:=by
  intro a c;have z:=c.lt;have t:w1.ownsMap Tryz.prog 51 sI mb n a:=by
   obtain⟨es,r,u,C⟩:=c;exact⟨es,r,(i.block mb z (g.ne h)).trans u,C⟩
  exact t.store (d:=.held v) (ps:=[]) fC underlying132 (by unfold maxLen;omega) (fZ h) rfl
 obtain⟨a,c,_⟩:=g.map;obtain⟨w2,m,_,E⟩:=p a c;obtain⟨j,D⟩:=jt E;refine⟨w2,m,g.put_of h (i.mono λb _ e=>am e) x A y j (λq s=>?_),j,D⟩;obtain⟨G,o,B,_⟩:=p q s;rw[m]at o;injection o with _ e;rw[e];exact B
theorem GM.entry(s:GM base mb n N f sl w)(g:I2 k)(ak:n<1000000):∃(q:Nat)(w1:World),(Instr.mapEntry 132 (.map (some mb)) (pk k)).run Tryz.prog w=.ok (.tuple #[sl k,goInt q]) w1/\bH (λb=>b=mb) w w1/\w1.heap.size=w.heap.size/\ ∀(w2:World)(v:Value)(l:List (Tm N)),w2.heap[mb]?=w1.heap[mb]? ->bH (λb=>b=mb\/(sl k).ownBlock=some b) w w2->l≠[]->oS base N v l w2->(∀b,v.ownBlock=some b->(sl k).ownBlock=some b\/w.heap.size<=b)-> ∃i,(Instr.entryStore 132 (.map (some mb)) (goInt q) v).run Tryz.prog w2=.ok () i/\GM base mb (n+1) N (iy f k l) (iy sl k v) i/\bH (λb=>b=mb) w2 i/\i.heap.size=w2.heap.size:=by
 obtain⟨I,t,aj,_⟩:=s.map;obtain⟨es,r,c,j,Z,P⟩:=t;have t:w.ownsMap Tryz.prog 51 sI mb n I:=⟨es,r,c,j,Z,P⟩;obtain⟨ah,q,o,m,X,H,aa⟩:=WideElems.entry_then_store (e:=52) AD.law underlying132 sU c j (fZ g);have K:ah=sl k:=by
  have x:=s.look g;obtain⟨am,ps,Y,al⟩:=t.lookup fC underlying132 (sU w) (zd:=.held ns) (zp:=[]) rfl (fZ g);rw[x]at Y;rcases Maps.fit_look false fC underlying132 (sU w) c j (fZ g)with⟨a,z,_⟩|⟨L,an,E,p,a,_⟩
  ·rw[x]at a;injection a with a _;rcases H with⟨B,y,h,_⟩|⟨_,rfl⟩
   ·exact absurd h (z B y)
   ·exact a.symm
  ·rw[x]at a;injection a with a _;rcases H with⟨B,y,h,rfl⟩|⟨z,_⟩
   ·have:=entry_eq_of_key ((MapKept.stamped_iff es r).1 j.stamped).2.2 E y (p.trans h.symm);simp at a;rw[a,this]
   ·exact absurd p (z L E)
 subst K;have ab:w.mapTurned (ChangeMaps.setBlock w mb (.map o m)) mb:=⟨es,r,o,m,c,rfl⟩;obtain⟨p,af⟩:=jt ab;refine⟨q,_,X,p,af,λw2 v l ae Q R T S=>?_⟩;have u:w2.heap[mb]?=some (.map o m):=ae.trans (tV c _);obtain⟨C,A,U,V⟩:=aa w2 v u;have ad:w2.mapTurned (ChangeMaps.setBlock w2 mb (.map C A)) mb:=⟨o,m,C,A,u,rfl⟩;obtain⟨h,ag⟩:=jt ad;refine⟨_,U,s.put_of g Q R T S h (λai O=>?_),h,ag⟩;obtain⟨i,G,F,_⟩:=O.store (d:=.held v) (ps:=[]) fC underlying132 (by unfold maxLen;omega) (fZ g) rfl;rw[V]at G;injection G with _ e;rw[<-e]at F;obtain⟨M,J,D,W⟩:=F;rw[tV c]at D;exact⟨M,J,(tV u _).trans D,W⟩
theorem GM.drop(h:GM base mb n N f sl w){k:Int×Int}(l:I2 k)(ty:TypeId):∃w2,(Builtin.delete_ #[132,51] ty #[.map (some mb),pk k]).run Tryz.prog w=.ok (.tuple #[]) w2/\GM base mb n N (iy f k []) (iy sl k ns) w2/\bH (λb=>b=mb) w w2/\w2.heap.size=w.heap.size:=by
 obtain⟨D,u,v,q⟩:=h.map;obtain⟨w2,A,z,C⟩:=u.drop fC underlying132 (fZ l) ty;obtain⟨r,B⟩:=jt C;refine⟨w2,A,⟨h.lo,⟨_,z,λc d=>?_,λt=>?_⟩,λc d=>?_,λs c x d y b=>?_⟩,r,B⟩
 ·by_cases a:c=k
  ·subst a;rw[df,atKey_del_same]
  ·rw[cg _ _ a,atKey_del_other λe=>a (qY d l e)];exact v c d
 ·constructor
  ·intro j;by_cases a:t=kl k
   ·rw[a,has_del_same]at j;cases j
   ·rw[has_del_other a]at j;obtain⟨c,d,p,g⟩:=(q t).1 j;refine⟨c,d,p,?_⟩;rw[cg _ _ λe=>a (by rw[p,e])];exact g
  ·rintro ⟨c,d,rfl,g⟩;by_cases a:c=k
   ·rw[a,df]at g;exact absurd rfl g
   ·rw[has_del_other λe=>a (qY d l e)];rw[cg _ _ a]at g;exact(q _).2 ⟨c,d,rfl,g⟩
 ·by_cases a:c=k
  ·subst a;rw[df,df];exact⟨by simp[dM,cN],ak ⟨rfl,rfl⟩⟩
  ·rw[cg _ _ a,cg _ _ a];exact bC (h.row c d) r λb i e=>h.ne d (by rw[i,e])
 ·by_cases m:s=k
  ·subst m;rw[df];intro i;simp[ns,Value.ownBlock]at i
  ·rw[cg _ _ m];by_cases o:c=k
   ·subst o;rw[df];intro _ i;simp[ns,Value.ownBlock]at i
   ·rw[cg _ _ o];exact h.apart s c x d y b
theorem xJ{P:Program}(w:ah)(t ty e:TypeId)(i:TypeInfo)(x:P.underlying t=some (.slice e))(r:P.info? e=some i)(g d k:Nat)(f:Array az)(q:w.heap[g]?=some (.cells f e (0,0)))(a:Addr)(m c:Nat)(b:dH)(s:b.length=m*i.size)(u:∀j h,b[j]?=some h->w.cell? (a.add j)=some h)(n:∀h∈b,h.oneCell'=true)(v:d+m<=k)(p:d*i.size+b.length<=f.size):(Builtin.append_ #[t,t] ty #[ag (some ⟨g,0,none⟩) d k,ag (some a) m c]).run P w= .ok (ag (some ⟨g,0,none⟩) (d+m) k) (w.setRow g (f.toList.take (d*i.size)++b++f.toList.drop (d*i.size+b.length)).toArray):=by
 have o:=run_firstCells_some (P:=P) w i.size m a m c b s u;have l:=qp P g (d*i.size) e b 0 f w q (by simpa using p) n;simp only[jC]at l;simp[Builtin.append_,cJ x,sizeOf,typeInfo,r,Builtin.lenOf,v,o,eS,l]
theorem Im:(Tryz.prog.info? 54).map (λi=>(i.zero,i.size,i.bytes))=some (some (.agg #[ae 0,ae 0,af ⟨#[]⟩,ag none 0 0]),4,56):=by kernel_rfl
def qI:List az:=[ae 0,ae 0,af ⟨#[]⟩,ag none 0 0]
theorem xL(w:ah)(ty:TypeId)(g o c:Nat)(a:Array az)(e:w.heap[g]?=some (.cells a 54 (0,0)))(d:o+4<=a.size):(Builtin.clear_ #[52] ty #[ag (some ⟨g,o,none⟩) 1 c]).run Tryz.prog w=.ok (ax #[]) (w.setRow g (a.toList.take o++qI++a.toList.drop (o+4)).toArray):=by
 have b:=qp Tryz.prog g o 54 qI 0 a w e (by simpa [qI]using d) (by simp[qI,Value.oneCell']);have h:(Builtin.zeroCells (Value.agg #[ae 0,ae 0,af ⟨#[]⟩,ag none 0 0]).cells 1).toList=qI:=by
  simp[Builtin.zeroCells,Value.cells,qI];rfl
 simp only[jC]at b;have f:qI.length=4:=rfl;rw[f]at b;simp[Builtin.clear_,cJ underlying52,h,b]
theorem LZ(w:ah)(g L c:Nat)(b:L<=c)(d:1<=L):(Instr.slice 52 (ag (some ⟨g,0,none⟩) L c) (some (ae 0)) (some (ae 1)) (some (ae L))).run Tryz.prog w=.ok (ag (some ⟨g,0,none⟩) 1 L) w:=by
 have a:(1:Int)<=(L:Int):=by omega
 simp[Instr.slice,cJ underlying52,Instr.sliceBounds,Instr.sliceBound,asIntOf,a,b,go_sem]
theorem Fq(w:ah)(g L c:Nat):(Instr.slice 52 (ag (some ⟨g,0,none⟩) L c) none (some (ae 0)) none).run Tryz.prog w=.ok (ag (some ⟨g,0,none⟩) 0 c) w:=by
 simp[Instr.slice,cJ underlying52,Instr.sliceBounds,Instr.sliceBound,asIntOf,go_sem]
theorem Fr(w:ah)(g L c:Nat)(d:L<=c)(e:2<=L):(Instr.slice 52 (ag (some ⟨g,0,none⟩) L c) (some (ae 1)) none none).run Tryz.prog w=.ok (ag (some ⟨g,4,none⟩) (L-1) (c-1)) w:=by
 have a:(1:Int)<=(L:Int):=by omega
 have b:¬c=1:=by omega
 simp[Instr.slice,cJ underlying52,Instr.sliceBounds,Instr.sliceBound,asIntOf,a,b,go_sem,eS]
theorem Fp(w:ah)(g m c:Nat)(e:m+1<=c):(Instr.slice 52 (ag (some ⟨g,0,none⟩) m c) (some (ae m)) (some (ae ((m:Int)+1))) none).run Tryz.prog w=.ok (ag (some ⟨g,m*4,none⟩) 1 (c-m)) w:=by
 have a:¬c=m:=by omega
 have b:(m:Int)+1<=(c:Int):=by omega
 have d:(0:Int)<=(m:Int)+1:=by omega
 simp[Instr.slice,cJ underlying52,Instr.sliceBounds,Instr.sliceBound,asIntOf,a,b,d,go_sem,eS]
theorem uP{w w':ah}{v x':az}{b:Array Oper}{o:Oper}{a:Act}{K:Act->bF}{Q:Exit->Act->bF}{E:Prop}(d:o.guard=none)(s x:Operand)(e:o.op=.call {callee:=.builtin .append,args:= #[s,x],argTypes:= #[52,52]})(g:a.eval s=v)(i:a.eval x=x')(f:(Builtin.append_ #[52,52] o.type #[v,x']).run Tryz.prog w=.ok l w')(c:K (a.put o.dst l) w'):if Region.wanted o (yielded b a.tmps)=true then Oper.wp Tryz.prog o a w K Q else E:=by
 have h:Region.wanted o (yielded b a.tmps)=true:=by simp[Region.wanted,d]
 rw[if_pos h];unfold Oper.wp execOp;simp only[e,resolve,invoke,builtin,jE,jF,jD,jA,bA,dA,g,i,f];exact c
theorem aj{w:ah}{a:Array az}(b:w.heap[g]?=some (.cells a e (0,0)))(j:Nat):w.cell? ⟨g,j,none⟩=a.toList[j]? :=by
 simp[World.cell?,b]
theorem D8(base g c m:Nat)(y:Tm N)(l:List (Tm N))(w:ah)(j:l.length=m)(C:oS base N (ag (some ⟨g,0,none⟩) (m+1) c) (y::l) w)(D:l≠[]):au 161 #[ag (some ⟨g,0,none⟩) ((m:Nat)+1) c,ae 0,ae 1] w λe w'=>e=aw (ag (some ⟨g,0,none⟩) m c)/\oS base N (ag (some ⟨g,0,none⟩) m c) l w'/\w.grownBy w' (some g)/\w'.heap.size=w.heap.size:=by
 obtain⟨Q,hit,Y,M,Z⟩:=bS Im;have X:0<m:=by
  rw[<-j];exact nJ.2 D
 obtain⟨E,F⟩:=C;rcases F with⟨e,_⟩|⟨U,cap,d,e,J,r,H,I,u,t⟩
 ·cases e
 ·injection e with i A B;injection i with i;injection i with i _;subst i B;simp only[bu,j]at E H t A;have q:d.toList.length=c*4:=by rw[lu,u]
  have L:d.toList.take ((m+1)*4)=dM N [y]++dM N l:=by
   rw[t,<-qB];rfl
  have R:(dM N [y]).length=4:=by rw[qC];rfl
  have f:(dM N l).length=m*4:=by rw[qC,j]
  have z:Hid (∀a:ah,a.heap[g]?=some (.cells d 54 (0,0))->∀n o,(dM N l)[n]?=some o->a.cell? ((⟨g,4,none⟩:Addr).add n)=some o):=by
   intro a h n o s;have W:=(bi.1 s).1;rw[eS,aj h];have e:(d.toList.take ((m+1)*4))[4+n]?=some o:=by
    rw[L,fq (by omega),R,Nat.add_sub_cancel_left];exact s
   rw[jy]at e;split at e
   ·exact e
   ·cases e
  have v:Hid (∀(a:ah)(ty:TypeId),a.heap[g]?=some (.cells d 54 (0,0))->(Builtin.append_ #[52,52] ty #[ag (some ⟨g,0,none⟩) 0 c,ag (some ⟨g,4,none⟩) m (c-1)]).run Tryz.prog a=
   .ok (ag (some ⟨g,0,none⟩) m c) (a.setRow g (dM N l++d.toList.drop (m*4)).toArray)):=by
   intro a ty h;have p:=xJ (P:=Tryz.prog) a 52 ty 54 Q underlying52 hit g 0 c d h ⟨g,4,none⟩ m (c-1) (dM N l) (by rw[f,M]) (z a h) (uq _) (by omega) (by rw[f,u];omega);simpa [f]using p
  have x:Hid (∀(a:ah)(ty:TypeId),a.heap[g]?=some (.cells (dM N l++d.toList.drop (m*4)).toArray 54 (0,0))->(Builtin.clear_ #[52] ty #[ag (some ⟨g,m*4,none⟩) 1 (c-m)]).run Tryz.prog a=
   .ok (ax #[]) (a.setRow g (dM N l++qI++d.toList.drop ((m+1)*4)).toArray)):=by
   intro a ty h;have p:=xL a ty g (m*4) (c-m) _ h (by simp only[fM,bq,eU,f,q];omega);rw[p];refine congrArg (λT=>Result.ok (Value.tuple #[]) (a.setRow g (List.toArray T))) ?_;rw[qk,kt (by omega),bG (by omega),List.drop_append,qd (by omega),f,List.drop_drop,nK];rw[show m*4+(m*4+4-m*4)=(m+1)*4 by omega]
  have G:=v w.drew 52 r;have HB:Hid ((w.drew.setRow g (dM N l++d.toList.drop (m*4)).toArray).heap[g]?=some (.cells (dM N l++d.toList.drop (m*4)).toArray 54 (0,0))):=setRow_heap w.drew g d _ _ _ r;have V:=λty:TypeId=>x _ ty HB;have aa:=λa:ah=>LZ a g (m+1) c (by omega) (by omega);have ab:=λa:ah=>Fq a g (m+1) c;have S:=λa:ah=>Fr a g (m+1) c (by omega) (by omega);have ad:=λa:ah=>Fp a g m c (by omega);rw[eq]at S;go_enter func161,ntmps161;go_wp2_with fail;go_region_held3 (λ_=>True) (trivial) ((first|(refine uP rfl _ _ rfl (by simp[Act.eval]) (by simp[Act.eval]) G ?_)));go_wp2_with fail
  go_ret
  have k:∀b,b≠g->((w.drew.setRow g (dM N l++d.toList.drop (m*4)).toArray).setRow g (dM N l++(qI++d.toList.drop ((m+1)*4))).toArray).heap[b]?=w.heap[b]? :=λb k=>(setRow_other _ _ _ _ k).trans (setRow_other _ _ _ _ k);refine⟨rfl,⟨by rw[f,j],am ⟨g,c,_,by rw[j],J,setRow_heap _ _ _ _ _ _ HB,by omega,I,?_,?_⟩⟩,⟨rfl,rfl,rfl,by simp,λb _ K=>k b λe=>K (by rw[e])⟩,by simp⟩
  ·have O:qI.length=4:=rfl;simp only[fM,bq,eU,f,q,O];omega
  ·rw[qk,kt (by omega),bG (by omega)]
abbrev Ac(n:Nat):Type:=Int×(Tm n×Tm n)×(aq×Int)
abbrev Cl(n:Nat):Type:=(Tm n×Tm n×Tm n)×(ay×Nat)×List (Ac n)
abbrev Bh(n:Nat):Type:=aq×(ay×Nat)×List (Cl n)
def kY(n:Nat)(x:Tm n):List az:=wL (gL n x)
def gY(n:Nat)(a:Ac n):List az:=ae a.1::(kY n a.2.1.1++kY n a.2.1.2++ [af a.2.2.1,ae a.2.2.2])
def fG(n:Nat)(c:Cl n):List az:=kY n c.1.1++kY n c.1.2.1++(ag c.2.1.1 c.2.2.length c.2.1.2::kY n c.1.2.2)
def rK(n:Nat)(b:Bh n):List az:=[af b.1,ag b.2.1.1 b.2.2.length b.2.1.2]
def Lay{c:Type}(B:Nat)(w:ah)(k:Nat)(f:c->List az)(i:c->Prop)(a:ay)(l:List c):Prop:=
 l=[]\/∃b o,a=some ⟨b,o,none⟩/\b<B/\∀(e:Nat)(d:c),l[e]?=some d->(∀(g:Nat)(h:az),(f d)[g]?=some h->w.cell? ⟨b,o+e*k+g,none⟩=some h)/\i d
def jK(n:Nat)(B:Nat)(w:ah)(a:Ac n):Prop:=dn a.1/\In B w n a.2.1.1/\In B w n a.2.1.2/\a.2.2.1.size<=maxLen/\dn a.2.2.2
def iQ(n:Nat)(B:Nat)(w:ah)(c:Cl n):Prop:=(In B w n c.1.1/\In B w n c.1.2.1/\In B w n c.1.2.2)/\(c.2.2.length<=c.2.1.2/\c.2.1.2<=maxLen)/\Lay B w 11 (gY n) (jK n B w) c.2.1.1 c.2.2
def rN(n:Nat)(B:Nat)(w:ah)(b:Bh n):Prop:=b.1.size<=maxLen/\(b.2.2.length<=b.2.1.2/\b.2.1.2<=maxLen)/\Lay B w 13 (fG n) (iQ n B w) b.2.1.1 b.2.2
def uE{c:Type}(d:c->Prop)(P:aW)(a:ay)(l:List c):Prop:=l=[]\/∃b o,a=some ⟨b,o,none⟩/\P b/\∀y∈l,d y
def mO(n:Nat)(P:aW)(a:Ac n):Prop:=cF P n a.2.1.1/\cF P n a.2.1.2
def kG(n:Nat)(P:aW)(c:Cl n):Prop:=(cF P n c.1.1/\cF P n c.1.2.1/\cF P n c.1.2.2)/\uE (mO n P) P c.2.1.1 c.2.2
def kF(n:Nat)(P:aW)(b:Bh n):Prop:=uE (kG n P) P b.2.1.1 b.2.2
def kH{e:Type}(f:Nat->ah->e->Prop)(g:(Nat->Prop)->e->Prop):Prop:=
 (∀(d i:aW)(a:e),(∀b,d b->i b)->g d a->g i a)/\(∀(d:aW)(c:Nat)(w:ah)(a:e),g d a->f c w a->g (λb=>d b/\b<c) a)/\
 (∀(d:aW)(c:Nat)(w j:ah)(a:e),(∀b,d b->j.heap[b]?=w.heap[b]?)->g d a->f c w a->f c j a)/\(∀(c h:Nat)(w:ah)(a:e),c<=h->f c w a->f h w a)/\
 (∀(c:Nat)(w:ah)(a:e),f c w a->g (λb=>b<c) a)
theorem pN{B:Nat}{w:ah}:{n:Nat}->{x:Tm n}->In B w n x->cF (λb=>b<B) n x
 | 0,_,k=>k
 | _+1,_,k=>by
  obtain⟨_,a⟩:=k;rcases a with a|⟨b,o,e,c,a⟩
  ·exact ak a
  ·exact am ⟨b,o,e,c,λi y d=>pN (a i y d).2⟩
theorem eD(n:Nat):kH (λB w x=>In B w n x) (λP x=>cF P n x):=
 ⟨λ_ _ _ a k=>k.mono a,λ_ _ _ _ a k=>In.offB a k,λ_ _ _ _ _ a b k=>In.off a b k,λ_ _ _ _ a k=>k.mono a,λ_ _ _ k=>pN k⟩
theorem fV(n:Nat):kH (jK n) (mO n):=by
 obtain⟨t1,t2,t3,t4,t5⟩:=eD n
 exact⟨λc f d b k=>⟨t1 c f _ b k.1,t1 c f _ b k.2⟩,λc a w d b k=>⟨t2 c a w _ b.1 k.2.1,t2 c a w _ b.2 k.2.2.1⟩,
  λc a w h d b g k=>⟨k.1,t3 c a w h _ b g.1 k.2.1,t3 c a w h _ b g.2 k.2.2.1,k.2.2.2⟩,λa e w d b k=>⟨k.1,t4 a e w _ b k.2.1,t4 a e w _ b k.2.2.1,k.2.2.2⟩,
  λa w d k=>⟨t5 a w _ k.2.1,t5 a w _ k.2.2.1⟩⟩
theorem da(d:kH r i)(k:Nat)(f:h->List az)(a:ay):kH (λB w l=>Lay B w k f (r B w) a l) (λP l=>uE (i P) P a l):=by
 obtain⟨t1,t2,t3,t4,t5⟩:=d;refine⟨λP v q d k=>?_,λP B w q d k=>?_,λP B w D q d p k=>?_,λB u w q d k=>?_,λB w q k=>?_⟩
 ·rcases k with k|⟨b,o,g,m,k⟩
  ·exact ak k
  ·exact am ⟨b,o,g,d b m,λc e=>t1 P v c d (k c e)⟩
 ·rcases k with k|⟨b,o,g,m,k⟩
  ·exact ak k
  ·rcases d with d|⟨x,A,n,s,d⟩
   ·exact ak d
   ·rw[g]at n;simp at n;obtain⟨rfl,rfl⟩:=n;refine am ⟨b,o,g,⟨s,m⟩,λc e=>?_⟩;obtain⟨j,t⟩:=di e;exact t2 P B w c (d c e) (k j c t).2
 ·rcases k with k|⟨b,o,g,m,k⟩
  ·exact ak k
  ·rcases p with p|⟨x,A,n,s,p⟩
   ·exact ak p
   ·rw[g]at n;simp at n;obtain⟨rfl,rfl⟩:=n;exact am ⟨b,o,g,m,λj c e=>⟨λz C y=>(bM (d b s) _).trans ((k j c e).1 z C y),t3 P B w D c d (p c (aT e)) (k j c e).2⟩⟩
 ·rcases k with k|⟨b,o,g,m,k⟩
  ·exact ak k
  ·exact am ⟨b,o,g,by omega,λj c e=>⟨(k j c e).1,t4 B u w c d (k j c e).2⟩⟩
 ·rcases k with k|⟨b,o,g,m,k⟩
  ·exact ak k
  ·refine am ⟨b,o,g,m,λc e=>?_⟩;obtain⟨j,t⟩:=di e;exact t5 B w c (k j c t).2
theorem eM(n:Nat):kH (iQ n) (kG n):=by
 obtain⟨t1,t2,t3,t4,t5⟩:=eD n;have d:=λj=>da (fV n) 11 (gY n) j
 exact⟨λc f i b k=>⟨⟨t1 c f _ b k.1.1,t1 c f _ b k.1.2.1,t1 c f _ b k.1.2.2⟩,(d _).1 c f _ b k.2⟩,
  λc a w i b k=>⟨⟨t2 c a w _ b.1.1 k.1.1,t2 c a w _ b.1.2.1 k.1.2.1,t2 c a w _ b.1.2.2 k.1.2.2⟩,(d _).2.1 c a w _ b.2 k.2.2⟩,
  λc a w h i b g k=>⟨⟨t3 c a w h _ b g.1.1 k.1.1,t3 c a w h _ b g.1.2.1 k.1.2.1,t3 c a w h _ b g.1.2.2 k.1.2.2⟩,k.2.1,(d _).2.2.1 c a w h _ b g.2 k.2.2⟩,
  λa e w i b k=>⟨⟨t4 a e w _ b k.1.1,t4 a e w _ b k.1.2.1,t4 a e w _ b k.1.2.2⟩,k.2.1,(d _).2.2.2.1 a e w _ b k.2.2⟩,
  λa w i k=>⟨⟨t5 a w _ k.1.1,t5 a w _ k.1.2.1,t5 a w _ k.1.2.2⟩,(d _).2.2.2.2 a w _ k.2.2⟩⟩
theorem eL(n:Nat):kH (rN n) (kF n):=by
 have c:=λh=>da (eM n) 13 (fG n) h
 exact⟨λd g e b k=>(c _).1 d g _ b k,λd a w e b k=>(c _).2.1 d a w _ b k.2.2,λd a w j e b i k=>⟨k.1,k.2.1,(c _).2.2.1 d a w j _ b i k.2.2⟩,
  λa f w e b k=>⟨k.1,k.2.1,(c _).2.2.2.1 a f w _ b k.2.2⟩,λa w e k=>(c _).2.2.2.2 a w _ k.2.2⟩
def iW(n:Nat)(B:Nat)(w:ah)(a:ay)(l:List (Bh n)):Prop:=Lay B w 2 (rK n) (rN n B w) a l
theorem kH.below(a:kH r i){w w':ah}(c:Below B w w'){x:h}(k:r B w x):r B w' x:=
 a.2.2.1 (λb=>b<B) B w w' x (λb d=>c.block b d) (a.2.2.2.2 B w x k) k
theorem kH.mono(a:kH r i){C:Nat}(b:B<=C){w:ah}{x:h}(k:r B w x):r C w x:=a.2.2.2.1 B C w x b k
theorem iW.below{n B:Nat}{w w':ah}{a:ay}{l:List (Bh n)}(b:Below B w w')(k:iW n B w a l):iW n B w' a l:=(da (eL n) 2 (rK n) a).below b k
theorem iW.mono{n B C:Nat}(b:B<=C){w:ah}{a:ay}{l:List (Bh n)}(k:iW n B w a l):iW n C w a l:=(da (eL n) 2 (rK n) a).mono b k
def fD{a:Type}(d:Nat->ah->a->Prop)(e:(Nat->Prop)->a->Prop)(f:a->List az)(k:Nat)(T:TypeId)(B base:Nat)(xs:List a)(v:az)(w0 wr:ah):Prop:=
 Below base w0 wr/\wr.ownsRow base T k v xs.length (xs.flatMap f)/\∀c∈xs,d wr.heap.size wr c/\e (λb=>(b<B\/base<=b)/\v.ownBlock≠some b) c
theorem fD.nil{k:Nat}(w:ah):fD r i f k T B base [] (ag none 0 0) w w:=
 ⟨aG _ _,eW _ _ _ _,λb a=>by cases a⟩
theorem fD.later(b:kH r i){k:Nat}{xs:List h}{v:az}{w1:ah}(g:fD r i f k T B base xs v w0 wr)(j:base<=wr.heap.size)(a:ap wr w1):fD r i f k T B base xs v w0 w1:=by
 obtain⟨l,m,d⟩:=g;exact⟨l.trans (a.mono j),dU m a,λe c=>⟨b.mono a.size (b.below a (d e c).1),(d e c).2⟩⟩
theorem fD.step(e:kH r i){k:Nat}{xs:List h}{v:az}{w1 w2:ah}(D:fD r i f k T B base xs v w0 wr)(L:B<=base)(y:base<=wr.heap.size)(m:ap wr w1)(j:h)(w:r w1.heap.size w1 j)(F:i (λb=>b<B\/wr.heap.size<=b) j)(H:w2.ownsRow base T k (ag (some ⟨g,0,none⟩) (xs.length+1) c) (xs.length+1) (xs.flatMap f++f j))(o:w1.grownBy w2 v.ownBlock)(x:v.ownBlock=some g\/g=w1.heap.size):fD r i f k T B base (xs++ [j]) (ag (some ⟨g,0,none⟩) (xs.length+1) c) w0 w2:=by
 obtain⟨q,J,K⟩:=D;have u:∀b,v.ownBlock=some b->base<=b/\b<wr.heap.size:=λb d=>J.lt b d;have t:∀b,b<w1.heap.size->v.ownBlock≠some b->w2.heap[b]?=w1.heap[b]? :=λb y G=>o.block b y (λd=>G d.symm);have E:=m.size;have z:=o.size;refine⟨⟨(o.os.trans m.os).trans q.os,(o.tape.trans m.tape).trans q.tape,(o.output.trans m.output).trans q.output,by have:=q.size;omega,λb a=>?_⟩,?_,?_⟩
 ·exact(t b (by omega) (λd=>by have:=(u b d).1;omega)).trans ((m.block b (by omega)).trans (q.block b a))
 ·have C:(xs++ [j]).length=xs.length+1:=by simp
  have l:(xs++ [j]).flatMap f=xs.flatMap f++f j:=by simp
  rw[C,l];exact H
 ·intro s n;rcases du.1 n with n|n
  ·obtain⟨A,I⟩:=K s n;have p:=e.2.1 _ _ _ _ I A;refine⟨e.mono z (e.2.2.1 _ _ w1 w2 s (λb a=>t b ?_ a.1.2) p (e.mono E (e.below m A))),e.1 _ _ s (λb a=>⟨a.1.1,?_⟩) p⟩
   ·have:=a.2;omega
   ·simp only[Value.ownBlock];intro d;injection d with d;rcases x with l|l
    ·exact a.1.2 (by rw[l,d])
    ·have:=a.2;omega
  ·simp only[dO]at n;subst n;have p:=e.2.1 _ _ _ _ F w;refine⟨e.mono z (e.2.2.1 _ _ w1 w2 s (λb a=>t b a.2 (λd=>?_)) p w),e.1 _ _ s (λb a=>⟨?_,?_⟩) p⟩
   ·have:=u b d;have:=a.1;omega
   ·have:=a.1;omega
   ·simp only[Value.ownBlock];intro d;injection d with d;rcases x with l|l
    ·have:=u g l;have:=a.1;omega
    ·have:=a.2;omega
theorem fD.lit(a:kH r i){k:Nat}(xs:List h){w1:ah}{cs:Array az}(e:cs.toList=xs.flatMap f)(q:∀x,(f x).length=k)(o:xs.length<=maxLen)(l:base<=w1.heap.size)(p:Below base w0 w1)(c:∀y∈xs,r w1.heap.size w1 y/\i (λb=>b<B\/base<=b) y):fD r i f k T B base xs (ag (some ⟨w1.heap.size,0,none⟩) xs.length xs.length) w0 (w1.alloc (.cells cs T)):=by
 have d:ap w1 (w1.alloc (.cells cs T)):=aV _ _;have n:(xs.flatMap f).length=xs.length*k:=by
  clear e c o
  induction xs with
  | nil=>simp
  | cons x xs ih=>rw[bL,bq,ih,q,bu,Nat.succ_mul];omega
 have s:cs.size=xs.length*k:=by rw[<-n,<-e];simp
 refine⟨p.trans (d.mono l),⟨by rw[n],am ⟨w1.heap.size,xs.length,cs,rfl,l,aK w1 _,aA _,o,by omega,?_⟩⟩,λy g=>⟨a.mono d.size (a.below d (c y g).1),?_⟩⟩
 ·rw[e,bG (by omega)]
 ·refine a.1 _ _ y (λb m=>⟨m.1,?_⟩) (a.2.1 _ _ _ _ (c y g).2 (c y g).1);simp only[Value.ownBlock];intro j;injection j with j;have:=m.2;omega
theorem fD.lay(y:kH r i){k:Nat}{xs:List h}{v:az}(u:∀x,(f x).length=k)(j:fD r i f k T B base xs v w0 wr):∃a c,v=ag a xs.length c/\(xs.length<=c/\c<=maxLen)/\Lay wr.heap.size wr k f (r wr.heap.size wr) a xs/\uE (i (λb=>b<B\/base<=b)) (λb=>b<B\/base<=b) a xs:=by
 obtain⟨M,H,w⟩:=j;rcases H.2 with⟨q,J⟩|⟨s,cap,I,q,E,t,C,F,L,D⟩
 ·have G:xs=[]:=b8 (by omega);subst G;exact⟨none,0,q,⟨aA _,aM _⟩,ak rfl,ak rfl⟩
 ·refine⟨some ⟨s,0,none⟩,cap,q,⟨C,F⟩,am ⟨s,0,rfl,(aR.1 t).1,λd e p=>⟨λg n o=>?_,(w e (aT p)).1⟩⟩,am ⟨s,0,rfl,am E,λe p=>y.1 _ _ e (λb A=>A.1) (w e p).2⟩⟩;have z:∀(l:List h)(d g:Nat)(e:h)(n:az),l[d]?=some e->(f e)[g]?=some n->(l.flatMap f)[d*k+g]?=some n:=by
   intro l
   induction l with
   | nil=>intro d g e n j;simp at j
   | cons x l ih=>
    intro d g e n j o;rw[bL];cases d with
    | zero=>
     simp at j;subst j;rw[dN (by have:=(bi.1 o).1;omega)];simpa using o
    | succ d=>
     rw[fq (by rw[u,Nat.succ_mul];omega),u,Nat.succ_mul,show d*k+k+g-k=d*k+g by omega];exact ih d g e n (by simpa using j) o
  have m:=z xs d g e n p o;have K:=(bi.1 m).1;rw[<-D]at m;rw[jy]at m;split at m
  ·rw[cB];simp only[World.cell?,t];rw[nE]at m;simpa using m
  ·cases m
def JU(i:Option (List An))(f:List An->Option (List An))(w:ah)(e:Ending)(w':ah):Prop:=
 ∃h len c d,e=aw (ax #[ag h len c,.bool d])/\Hid (ap w w'/\(i=none->d=false)/\∀b,i=some b->∃g:List (Tm (nQ b)),aN (λk m=>aJ (nQ b) k (nQ b) m) g (DA b)=true/\(f (oP (nQ b) g)=none->d=false)/\
  ∀a,f (oP (nQ b) g)=some a->d=true/\len=4/\a.length=4/\∃j l,w.heap.size<=j.heap.size/\ig (nQ a) (DA a) j w' h c l)
theorem E8(g h j k v x s0 s1 t0 t1:Int)(i m y q t2:aq)(pa n z sa K t:ay)(pl pc p o B A sl sc M L cl u:Nat)(R:Option (List An))(f:List An->Option (List An))(w:ah)(X:Hid (∀E W,ap w E->ig 1 (List.replicate 4 fF) E W (some ⟨E.heap.size,0,none⟩) 4 (List.replicate 4 fF)->au 202 #[.agg #[ae g,ae h,af i,ag pa pl pc],.agg #[ae s0,ae s1,af q,ag sa sl sc],ag (some ⟨E.heap.size,0,none⟩) 4 4] W (zG 0 R W)))(aC:Hid (∀(b:List An)(l:List (Tm (nQ b)))(a:ay)(c:Nat)(E W:ah),ap w W->R=some b->b.length=4->ig (nQ b) (DA b) E W a c l->au 202 #[.agg #[ae j,ae k,af m,ag n p o],.agg #[ae t0,ae t1,af t2,ag K M L],ag a 4 c] W (zG 0 (f (oP (nQ b) l)) W))):au 177 #[.agg #[ae g,ae h,af i,ag pa pl pc,ae j,ae k,af m,ag n p o,ag t cl u,ae v,ae x,af y,ag z B A],.agg #[ae s0,ae s1,af q,ag sa sl sc],.agg #[ae t0,ae t1,af t2,ag K M L]] w (JU R f w):=by
 go_enter func177,ntmps177;go_wp2_with fail;have Y:Hid (∃s d e F,(s=((w.alloc (.cells #[ae g,ae h,af i,ag pa pl pc,ae j,ae k,af m,ag n p o,ag t cl u,ae v,ae x,af y,ag z B A] 229)).alloc (.cells #[ae s0,ae s1,af q,ag sa sl sc] 54)).alloc (.cells #[ae t0,ae t1,af t2,ag K M L] 54)/\d=w.heap.size/\e=w.heap.size+1/\F=w.heap.size+2)/\ap w s/\∀W,ap s W->(ai W d 0 (ae g)/\ai W d 1 (ae h)/\ai W d 2 (af i)/\ai W d 3 (ag pa pl pc))/\(ai W d 4 (ae j)/\ai W d 5 (ae k)/\ai W d 6 (af m)/\ai W d 7 (ag n p o))/\(ai W e 0 (ae s0)/\ai W e 1 (ae s1)/\ai W e 2 (af q)/\ai W e 3 (ag sa sl sc))/\(ai W F 0 (ae t0)/\ai W F 1 (ae t1)/\ai W F 2 (af t2)/\ai W F 3 (ag K M L))):=by
  have aU:(w.alloc (.cells #[ae g,ae h,af i,ag pa pl pc,ae j,ae k,af m,ag n p o,ag t cl u,ae v,ae x,af y,ag z B A] 229)).heap.size=w.heap.size+1:=by simp
  have aW:((w.alloc (.cells #[ae g,ae h,af i,ag pa pl pc,ae j,ae k,af m,ag n p o,ag t cl u,ae v,ae x,af y,ag z B A] 229)).alloc (.cells #[ae s0,ae s1,af q,ag sa sl sc] 54)).heap.size=w.heap.size+2:=by simp
  refine⟨_,_,_,_,⟨rfl,rfl,rfl,rfl⟩,((aV _ _).alloc (by simp) _).alloc (by simp;omega) _,λW G=>?_⟩;have r:=(G.block w.heap.size (by simp;omega)).trans (((aV _ _).block w.heap.size (by simp;omega)).trans (((aV _ _).block w.heap.size (by simp)).trans (aK w (.cells #[ae g,ae h,af i,ag pa pl pc,ae j,ae k,af m,ag n p o,ag t cl u,ae v,ae x,af y,ag z B A] 229))));have an:=aK (w.alloc (.cells #[ae g,ae h,af i,ag pa pl pc,ae j,ae k,af m,ag n p o,ag t cl u,ae v,ae x,af y,ag z B A] 229)) (.cells #[ae s0,ae s1,af q,ag sa sl sc] 54);rw[aU]at an;have P:=(G.block (w.heap.size+1) (by simp)).trans (((aV _ _).block (w.heap.size+1) (by simp)).trans an);have ao:=aK ((w.alloc (.cells #[ae g,ae h,af i,ag pa pl pc,ae j,ae k,af m,ag n p o,ag t cl u,ae v,ae x,af y,ag z B A] 229)).alloc (.cells #[ae s0,ae s1,af q,ag sa sl sc] 54)) (.cells #[ae t0,ae t1,af t2,ag K M L] 54);rw[aW]at ao;have Q:=(G.block (w.heap.size+2) (by simp)).trans ao;exact⟨⟨aj r 0,aj r 1,aj r 2,aj r 3⟩,⟨aj r 4,aj r 5,aj r 6,aj r 7⟩,⟨aj P 0,aj P 1,aj P 2,aj P 3⟩,aj Q 0,aj Q 1,aj Q 2,aj Q 3⟩
 obtain⟨s,d,e,F,⟨al,ab,ad,ak⟩,C,D⟩:=Y.out;rw[<-al,<-ak,<-ad,<-ab];replace C:=av C;replace D:=av D;clear al ab ad ak Y;obtain⟨⟨aw,ax,az,aA⟩,_,⟨y0,y1,y2,aB⟩,_⟩:=D.out s (aG _ _);have I:Hid (ap s s.drew):=(aG _ _).drew;have O:Hid (∀W,ap s W->(ai W d 0 (ae g)/\ai W d 1 (ae h)/\ai W d 2 (af i)/\ai W d 3 (ag pa pl pc))/\(ai W e 0 (ae s0)/\ai W e 1 (ae s1)/\ai W e 2 (af q)/\ai W e 3 (ag sa sl sc))):=λW G=>⟨(D W G).1,(D W G).2.2.1⟩
 go_region_held3 (λW=>(W.cell? ⟨d,0,none⟩=some (ae g)/\W.cell? ⟨d,1,none⟩=some (ae h)/\W.cell? ⟨d,2,none⟩=some (af i)/\W.cell? ⟨d,3,none⟩=some (ag pa pl pc))/\(W.cell? ⟨e,0,none⟩=some (ae s0)/\W.cell? ⟨e,1,none⟩=some (ae s1)/\W.cell? ⟨e,2,none⟩=some (af q)/\W.cell? ⟨e,3,none⟩=some (ag sa sl sc)))
  (first|(go_keep;done)|exact O _ I|exact O _ S|exact O _ N) ((first
   | (go_at_call 203;refine(CK _).mono ?_;rintro Z ba ⟨rfl,U⟩;have N:=av (I.trans (U.1.mono I.size)))
   | (go_at_call 202;refine(X _ _ (C.trans (I.mono C.size)) U).mono ?_;rintro Z ar ⟨aH,a2,aL,a5,rfl,J⟩;have S:=av (N.trans (J.1.mono N.size)))))
 have H:=av (C.trans (S.mono C.size));clear aw ax az aA y0 y1 y2 aB O U N I X;cases R with
 | none=>
  obtain⟨rfl,rfl⟩:a2=0/\a5=false:=J.out.2.1 (by simp);clear J;go_wp2_with fail
  go_ret2
  exact⟨none,0,0,false,rfl,H,λ_=>rfl,λb aO=>by cases aO⟩
 | some b=>
  obtain⟨aT,aR,aa,a7,am,aX,V⟩:=J.out.2.2 b trivial rfl;subst aT aR;have aE:=av (aC b am aH aL a7 ar H rfl aa V);have aD:=av V.2.2.2.2.1;obtain⟨_,⟨aw,ax,az,aA⟩,_,y0,y1,y2,aB⟩:=D ar S;clear V J aa aX;go_wp2_with fail;refine aE.mono ?_;rintro Z bb ⟨aI,a3,aM,a6,rfl,T⟩;go_wp2_with fail
  go_ret2
  refine⟨aI,a3,aM,a6,rfl,H.trans (T.1.mono H.size),(λaN=>by cases aN),λa9 aP=>?_⟩;cases aP;refine⟨am,aD,λaS=>(T.2.1 (by simp[aS])).2,λaJ aQ=>?_⟩;obtain⟨aY,aZ,a0,a8,a4,a1,kc⟩:=T.2.2 aJ trivial aQ;exact⟨aY,aZ,a0,a8,a4,aF H.size a1,kc⟩
theorem MX{p l:List (Tm n)}{w w':ah}(i:ig n p w w' a c l):fU w'.heap.size w' n l a:=by
 obtain⟨_,_,_,_,_,k⟩:=i;rcases k with d|⟨b,o,d,_,j,e⟩
 ·exact ak d
 ·exact am ⟨b,o,d,j,λg h f=>⟨(e g h f).1,(e g h f).2.1⟩⟩
theorem sC(a:DR y):aL y:=aY.2 (bT.1 a.1).1
theorem DU:∀y∈oP 1 (List.replicate 4 fF),DR y:=by
 intro y a;simp only[oP,cd,List.mem_replicate]at a;obtain⟨b,⟨_,rfl⟩,rfl⟩:=a;exact⟨zO,ak rfl⟩
theorem gH{x:Tm n}(a:bK n x=0):(aH n x).length<=2097152:=aF (jP a) (by omega)
theorem I3(n m k:Nat)(c:Cl (n+1))(s:Tm (m+1))(t:Tm (k+1))(B:Nat)(w:ah)(C:iQ (n+1) B w c)(K:In B w (m+1) s)(L:In B w (k+1) t)(a:B<=w.heap.size)(u:bK (n+1) c.1.1=0)(v:bK (n+1) c.1.2.1=0)(p:bK (m+1) s=0)(x:kQ (m+1) s=true)(y:bK (k+1) t=0)(H:kQ (k+1) t=true):au 177 #[.agg (fG (n+1) c).toArray,dF (m+1) s,dF (k+1) t] w (JU (jb (n+1) c.1.1 (m+1) s (oP 1 (List.replicate 4 fF))) (jb (n+1) c.1.2.1 (k+1) t) w):=by
 refine E8 c.1.1.1.1 c.1.1.1.2.1 c.1.2.1.1.1 c.1.2.1.1.2.1 c.1.2.2.1.1 c.1.2.2.1.2.1 s.1.1 s.1.2.1 t.1.1 t.1.2.1 c.1.1.1.2.2 c.1.2.1.1.2.2 c.1.2.2.1.2.2 s.1.2.2 t.1.2.2 c.1.1.2.1.1 c.1.2.1.2.1.1 c.1.2.2.2.1.1 s.2.1.1 t.2.1.1 c.2.1.1
  c.1.1.2.2.length c.1.1.2.1.2 c.1.2.1.2.2.length c.1.2.1.2.1.2 c.1.2.2.2.2.length c.1.2.2.2.1.2 s.2.2.length s.2.1.2 t.2.2.length t.2.1.2 c.2.2.length c.2.1.2 _ _ w ?_ ?_
 ·intro r d z i;have h:=z.trans (i.1.mono z.size)
  have e:=yA (n+1) (m+1) 1 c.1.1 s (List.replicate 4 fF) (some ⟨r.heap.size,0,none⟩) 4 d.heap.size d ((C.1.1.below (h.mono a)).mono (aF a h.size)) ((K.below (h.mono a)).mono (aF a h.size)) (MX i) (aA _) (gH u) (gH p) (λj f=>by
   rw[(List.mem_replicate.1 f).2]
   exact gH zO) (by simp)
  have o:uI (bK (n+1) c.1.1) (bK (m+1) s) (kQ (m+1) s) (gG 1 (List.replicate 4 fF))=0:=by
   rw[u,p,x,Kf];rfl
  rw[o]at e;exact e
 ·intro b l E F r d g J G i;have q:=lP DR pi (n+1) c.1.1 (m+1) s ⟨p,am (by rw[fQ];exact x)⟩ (oP 1 (List.replicate 4 fF)) b ⟨by simp[oP],DU⟩ J;obtain⟨I,D,M,N⟩:=Gi i (λj f=>sC (q.2 j f)) G;have A:=zq q.2 D q.1 M;have e:=yA (n+1) (k+1) (nQ b) c.1.2.1 t l E F d.heap.size d ((C.1.2.1.below (g.mono a)).mono (aF a g.size)) ((L.below (g.mono a)).mono (aF a g.size)) I (aA _) (gH v) (gH y) (λj f=>gH ((iB A).2 j f).1) (by omega);have o:uI (bK (n+1) c.1.2.1) (bK (k+1) t) (kQ (k+1) t) (gG (nQ b) l)=0:=by
   rw[v,y,H,A];rfl
  rw[o,D]at e;exact e
def xV(N:Nat)(o:Option (Tm (N+1)))(w:ah)(e:Ending)(w':ah):Prop:=
 ∃a:Tm (N+1),e=aw (ax #[.agg #[ae a.1.1,ae a.1.2.1,af a.1.2.2,ag a.2.1.1 a.2.2.length a.2.1.2],.bool o.isSome])/\Hid (ap w w'/\In w'.heap.size w' (N+1) a/\cF (λb=>w.heap.size<=b) (N+1) a/\aJ (N+1) a (N+1) (o.getD (xx N))=true)
theorem LQ{o:Option (Tm N)}:(GH E (oR E o)==0)=(oR E o).isSome:=by
 unfold GH;by_cases a:E=0
 ·rw[if_pos a];cases (oR E o).isSome<;>simp
 ·rw[if_neg a];have:oR E o=none:=by unfold oR;rw[if_neg a]
  rw[this];simp[a]
theorem DB(y:Tm (N+1)):dF (N+1) y=.agg #[ae y.1.1,ae y.1.2.1,af y.1.2.2,ag y.2.1.1 y.2.2.length y.2.1.2]:=rfl
theorem My{w w':ah}(b:Below (w.alloc (.cells #[v0,v1,v2,v3] t)).drew.heap.size (w.alloc (.cells #[v0,v1,v2,v3] t)).drew w'):ai w' w.heap.size 0 v0/\ai w' w.heap.size 1 v1/\ai w' w.heap.size 2 v2/\ai w' w.heap.size 3 v3/\w'.frozen? ⟨w.heap.size,0,none⟩=false/\w'.frozen? ⟨w.heap.size,1,none⟩=false/\w'.frozen? ⟨w.heap.size,2,none⟩=false/\w'.frozen? ⟨w.heap.size,3,none⟩=false:=by
 have a:=(b.block w.heap.size (by simp[World.drew])).trans (aK w (.cells #[v0,v1,v2,v3] t));exact⟨aj a 0,aj a 1,aj a 2,aj a 3,by simp[World.frozen?,a],by simp[World.frozen?,a],by simp[World.frozen?,a],by simp[World.frozen?,a]⟩
theorem O0{w w':ah}(a:Below (w.alloc (.cells #[v0,v1,v2,v3] t)).drew.heap.size (w.alloc (.cells #[v0,v1,v2,v3] t)).drew w'):w'.heap[w.heap.size]?=some (.cells #[v0,v1,v2,v3] t):=
 (a.block w.heap.size (by simp[World.drew])).trans (aK w (.cells #[v0,v1,v2,v3] t))
theorem tF{w:ah}(a:w.heap[g]?=some (.cells #[l,A,C,F] t))(v0 v1 v2 v3:az):(dk w g 0 v0 v1 v2 v3).heap[g]?=some (.cells #[v0,v1,v2,v3] t):=by
 simp[dk,World.setCell,bR,a]
def xU(N:Nat)(y:Tm (N+1))(w0:ah)(q p:Nat)(w2 b:ah):Prop:=
 ap w0 b/\b.heap[p]?=some (.cells #[ae y.1.1,ae y.1.2.1,af y.1.2.2,ag y.2.1.1 y.2.2.length y.2.1.2] 54)/\p≠q/\(∀a,a<w2.heap.size->a≠p->b.heap[a]?=w2.heap[a]?)/\cF (λa=>w0.heap.size<=a/\a<w2.heap.size/\a≠p) (N+1) y
theorem xU.cells{y:Tm (N+1)}{w2:ah}(b:xU N y w0 q p w2 z)(c:q<w0.heap.size)(d:w0.heap[q]?=some (.cells #[v0,v1,v2,v3] t)):(ai z p 0 (ae y.1.1)/\ai z p 1 (ae y.1.2.1)/\ai z p 2 (af y.1.2.2)/\ai z p 3 (ag y.2.1.1 y.2.2.length y.2.1.2))/\ (ai z q 0 v0/\ai z q 1 v1/\ai z q 2 v2/\ai z q 3 v3)/\z.frozen? ⟨q,0,none⟩=false/\z.frozen? ⟨q,1,none⟩=false/\z.frozen? ⟨q,2,none⟩=false/\z.frozen? ⟨q,3,none⟩=false/\p≠q:=by
 have a:=(b.1.block q c).trans d;exact⟨⟨aj b.2.1 0,aj b.2.1 1,aj b.2.1 2,aj b.2.1 3⟩,⟨aj a 0,aj a 1,aj a 2,aj a 3⟩,by simp[World.frozen?,a],by simp[World.frozen?,a],by simp[World.frozen?,a],by simp[World.frozen?,a],b.2.2.1⟩
theorem xU.close{y:Tm (N+1)}{o:Option (Tm (N+1))}{w w2:ah}(e:xU N y w0 q p w2 z)(b:ap w w0)(j:w.heap.size<=q)(s:q<w0.heap.size)(i:In w2.heap.size w2 (N+1) y)(k:aJ (N+1) y (N+1) ((oR E o).getD (xx N))=true)(l:w2.heap.size<=z.heap.size):xV N (oR E o) w (aw (ax #[.agg #[ae y.1.1,ae y.1.2.1,af y.1.2.2,ag y.2.1.1 y.2.2.length y.2.1.2],.bool (GH E (oR E o)==0)])) (dk z q 0 v0 v1 v2 v3):=by
 obtain⟨f,m,n,g,d⟩:=e;have h:=b.trans (f.mono b.size);have r:=b.size;refine⟨y,by rw[LQ],dx h j _ _ _ _,?_,d.mono λa c=>by omega,k⟩;rw[bJ];exact(In.off (P:=λa=>w0.heap.size<=a/\a<w2.heap.size/\a≠p) (λa c=>(bw (by omega) _ _ _ _).trans (g a c.2.1 c.2.2)) d i).mono l
theorem Ae(N:Nat)(E:Int)(o:Option (Tm (N+1)))(r s:Int)(t:aq)(xa:ay)(u xc:Nat)(a:ay)(c:Nat)(self:Int)(f:Nat)(w:ah)(ab:f<w.heap.size)(d0:ai w f 0 (ag a 4 c))(d1:ai w f 1 (ae self))(J:Hid (∀W,ap w W->au 205 #[.agg #[ae r,ae s,af t,ag xa u xc],ag a 4 c,ae self] W (Bm N E o W))):au 179 #[aE f,.agg #[ae r,ae s,af t,ag xa u xc]] w (xV N (oR E o) w):=by
 have S:Hid (∃d g y,(d=(w.alloc (.cells #[ae r,ae s,af t,ag xa u xc] 54)).alloc (.cells #[ae 0,ae 0,af ⟨#[]⟩,ag none 0 0] 54)/\g=w.heap.size/\y=w.heap.size+1)/\(g<d.heap.size/\f<d.heap.size/\y<d.heap.size/\w.heap.size<=y)/\ap w d/\d.heap[y]?=some (.cells #[ae 0,ae 0,af ⟨#[]⟩,ag none 0 0] 54)/\∀W,ap d W->(ai W g 0 (ae r)/\ai W g 1 (ae s)/\ai W g 2 (af t)/\ai W g 3 (ag xa u xc))/\ai W f 0 (ag a 4 c)/\ai W f 1 (ae self)):=by
  have aa:ap w ((w.alloc (.cells #[ae r,ae s,af t,ag xa u xc] 54)).alloc (.cells #[ae 0,ae 0,af ⟨#[]⟩,ag none 0 0] 54)):=(aV _ _).alloc (by simp) _;have am:=aK (w.alloc (.cells #[ae r,ae s,af t,ag xa u xc] 54)) (.cells #[ae 0,ae 0,af ⟨#[]⟩,ag none 0 0] 54);rw[fO]at am;refine⟨_,_,_,⟨rfl,rfl,rfl⟩,⟨by simp;omega,by simp;omega,by simp,by omega⟩,aa,am,λW Y=>?_⟩;have K:=(Y.block w.heap.size (by simp;omega)).trans (((aV _ _).block w.heap.size (by simp)).trans (aK w (.cells #[ae r,ae s,af t,ag xa u xc] 54)));have Z:ap w W:=aa.trans (Y.mono (by simp;omega));exact⟨⟨aj K 0,aj K 1,aj K 2,aj K 3⟩,(Z.cell (p:=⟨f,0,none⟩) ab).trans d0,(Z.cell (p:=⟨f,1,none⟩) ab).trans d1⟩
 go_enter func179,ntmps179;go_wp2_with fail;obtain⟨d,g,y,⟨al,ad,ak⟩,i,n,I,h⟩:=S.out;rw[<-al,<-ak,<-ad];replace i:=av i;replace n:=av n;replace I:=av I;replace h:=av h;clear al ad ak S d0 d1;obtain⟨⟨T,U,V,X⟩,d0,d1⟩:=h.out d (aG _ _);have x:Hid (ap d d.drew):=(aG _ _).drew;have z:Hid (∀o:Obj,ap d (d.alloc o).drew):=λo=>(aV _ o).drew;have M:Hid (∀o:Obj,ap w (d.alloc o).drew):=λo=>n.trans ((z o).mono n.size);have O:=av (n.trans (x.mono n.size))
 go_region_held3 (λW=>(W.cell? ⟨g,0,none⟩=some (ae r)/\W.cell? ⟨g,1,none⟩=some (ae s)/\W.cell? ⟨g,2,none⟩=some (af t)/\W.cell? ⟨g,3,none⟩=some (ag xa u xc))/\W.cell? ⟨f,0,none⟩=some (ag a 4 c)/\W.cell? ⟨f,1,none⟩=some (ae self))
  (first|(go_keep;done)|exact h _ x|exact h _ (z _)|exact h _ (j.alloc j.size _)|exact h _ ((((j.setCell (aA _) _).setCell (aA _) _).setCell (aA _) _).setCell (aA _) _)|exact h _ j) ((first
   | (go_at_call 205;refine(J _ O).mono ?_;rintro aB q ⟨b,rfl,e⟩;rw[DB];have j:=av (x.trans (e.1.mono x.size)))
   | (go_at_call 205;refine(J _ (M _)).mono ?_;rintro aB q ⟨b,rfl,e⟩;rw[DB];have j:=av ((z _).trans (e.1.mono (z _).size));have an:=av (O0 e.1);obtain⟨D,F,G,H,f0,f1,f2,f3⟩:=My e.1)))
 ·have B:Hid (∃m p,(m=q.alloc (.cells #[ae b.1.1,ae b.1.2.1,af b.1.2.2,ag b.2.1.1 b.2.2.length b.2.1.2] 54)/\p=q.heap.size)/\xU N b d y p q m):=by
    refine⟨_,_,⟨rfl,rfl⟩,j.alloc j.size _,aK _ _,?_,λL A _=>(aV _ _).block L A,?_⟩
    ·have:=i.2.2.1;have:=j.size;omega
    ·exact(In.offB e.2.2.1 e.2.1).mono λL A=>by have:=x.size;omega
  obtain⟨m,p,⟨l,C⟩,k⟩:=B.out;rw[<-l,<-C];replace k:=av k;have P:=av e.2.1;have Q:=av e.2.2.2;have R:Hid (q.heap.size<=m.heap.size):=by
   rw[l];simp[Hid]
  clear l C B e J h z M O x T U V X d0 d1;obtain⟨⟨ao,ar,aw,az⟩,⟨D,F,G,H⟩,f0,f1,f2,f3,aC⟩:=k.out.cells i.2.2.1 I;go_wp2_with fail;exact aD (v:=ax #[.agg #[ae b.1.1,ae b.1.2.1,af b.1.2.2,ag b.2.1.1 b.2.2.length b.2.1.2],.bool (GH E (oR E o)==0)]) (by simp[results,results179,go_sem,D,F,G,H]) rfl (k.close n i.2.2.2 i.2.2.1 P Q R)
 ·have B:Hid (∃m p,(m=dk q d.heap.size 0 (ae b.1.1) (ae b.1.2.1) (af b.1.2.2) (ag b.2.1.1 b.2.2.length b.2.1.2)/\p=d.heap.size)/\xU N b d y p q m):=by
    refine⟨_,_,⟨rfl,rfl⟩,((((j.setCell (aA _) _).setCell (aA _) _).setCell (aA _) _).setCell (aA _) _),?_,?_,λL _ A=>bw A _ _ _ _,?_⟩
    ·exact tF an _ _ _ _
    ·have:=i.2.2.1;omega
    ·exact(In.offB e.2.2.1 e.2.1).mono λL A=>by
       have:=A.1;simp[World.drew]at this;omega
  obtain⟨m,p,⟨l,C⟩,k⟩:=B.out;replace k:=av k;have P:=av e.2.1;have Q:=av e.2.2.2;have R:Hid (q.heap.size<=m.heap.size):=by
   rw[l,bJ];exact aA _
  unfold dk at l;simp only[cB]at l;rw[<-l,<-C];clear l C B e J h z M O x T U V X d0 d1 D F G H f0 f1 f2 f3;obtain⟨⟨ao,ar,aw,az⟩,⟨D,F,G,H⟩,f0,f1,f2,f3,aC⟩:=k.out.cells i.2.2.1 I;go_wp2_with fail;exact aD (v:=ax #[.agg #[ae b.1.1,ae b.1.2.1,af b.1.2.2,ag b.2.1.1 b.2.2.length b.2.1.2],.bool (GH E (oR E o)==0)]) (by simp[results,results179,go_sem,D,F,G,H]) rfl (k.close n i.2.2.2 i.2.2.1 P Q R)
def Gs{N:Nat}:Option (Tm (N+1))->Bool
 | some a=>a.1.1==3
 | none=>false
theorem B4(N:Nat)(o:Option (Tm (N+1)))(a d:Int)(f:aq)(xa:ay)(g xc:Nat)(q:Nat)(w:ah)(p:Hid (∀W,ap w W->au 179 #[aE q,.agg #[ae a,ae d,af f,ag xa g xc]] W (xV N o W))):au 238 #[aE q,.agg #[ae a,ae d,af f,ag xa g xc]] w λe w'=>∃r,e=aw (ax #[ae r,.bool (Gs o)])/\Hid (ap w w'/\∀b,o=some b->r=b.1.2.1):=by
 have h:Hid (∀o:Obj,ap w (w.alloc o)):=λo=>aV _ o;have s:(w.alloc (.cells #[ae a,ae d,af f,ag xa g xc] 54)).cell? ⟨w.heap.size,0,none⟩=some (ae a):=aj (aK w _) 0;go_enter func238,ntmps238;go_wp2_with fail;refine(p _ (h _)).mono ?_;rintro e v ⟨x,rfl,i⟩;have l:=av ((h (.cells #[ae a,ae d,af f,ag xa g xc] 54)).trans (i.1.mono (h _).size));have n:=av i.2.2.2;have m:Hid (∀k:Obj,ap w (v.alloc k).drew):=λk=>(l.alloc l.size k).drew;clear i p s;cases o with
 | none=>
  simp only[nP];go_wp2_with fail;go_region
  all_goals
   go_wp2_with fail
   go_ret2
   exact⟨_,rfl,m _,λb j=>by cases j⟩
 | some b=>
  simp only[lI];have c:=n.out;simp only[Option.getD_some,aJ,aS,cT]at c;have t:Hid (Gs (some b)=(x.1.1==3)):=by
   show _=_;rw[c.1.1.1];rfl
  have u:=av c.1.1.2;clear c n;go_wp2_with fail;go_region
  all_goals
   go_wp2_with fail
   go_ret2
   rw[t.out];exact⟨_,rfl,m _,λy j=>by cases j;exact u⟩
theorem Nr:(Tryz.prog.info? 3).map (λi=>(i.zero,i.size,i.bytes))=some (some (ae 0),1,8):=by kernel_rfl
def PT(base i:Nat)(f:ay)(L g:Nat)(xs:dH)(t:Bool)(h:Int->Prop)(w:ah)(e:Ending)(w':ah):Prop:=
 e=aw (.bool t)/\(t=false->ap w w')/\
  (t=true->∃d a c b,h d/\b.ownsRow base 3 1 (ag (some ⟨a,0,none⟩) (L+1) c) (L+1) (xs++ [ae d])/\bH (λj=>(Value.slice f L g).ownBlock=some j) w b/\((Value.slice f L g).ownBlock=some a\/w.heap.size<=a)/\w'=b.setCell ⟨i,5,none⟩ (ag (some ⟨a,0,none⟩) (L+1) c))
theorem Iy(k u v:Int)(x:aq)(xa:ay)(y xc:Nat)(y0 y1:Int)(y2:aq)(ya:ay)(yl yc:Nat)(nm:aq)(N:Int)(base a:Nat)(b:ay)(L c:Nat)(xs:dH)(w:ah)(t:Bool)(z:Int->Prop)(ab:L<=10000)(G:a<w.heap.size)(ad:base<=w.heap.size)(A:Hid (ai w a 5 (ag b L c)/\w.frozen? ⟨a,5,none⟩=false))(U:Hid (w.ownsRow base 3 1 (ag b L c) L xs))(B:Hid ((Value.slice b L c).ownBlock≠some a))(C:Hid (∀W,ap w W->au 238 #[aE a,.agg #[ae u,ae v,af x,ag xa y xc]] W λe w'=>∃f,e=aw (ax #[ae f,.bool t])/\Hid (ap W w'/\z f))):au 230 #[aE a,.agg #[ae k,ae u,ae v,af x,ag xa y xc,ae y0,ae y1,af y2,ag ya yl yc,af nm,ae N]] w (PT base a b L c xs t z w):=by
 obtain⟨j,hit,I,J,K⟩:=bS Nr;have n:Hid (Tryz.prog.info? 3=some j/\j.zero=some (ae 0)/\j.size=1/\j.bytes=8):=⟨hit,I,J,K⟩;clear hit I J K;have D:Hid (∃r,r=w.alloc (.cells #[ae k,ae u,ae v,af x,ag xa y xc,ae y0,ae y1,af y2,ag ya yl yc,af nm,ae N] 268)/\ap w r):=⟨_,rfl,aV _ _⟩;go_enter func230,ntmps230;go_wp2_with fail;obtain⟨r,M,F⟩:=D.out;rw[<-M];have m:=av F;clear M F D;refine(C _ m).mono ?_;rintro e l ⟨f,rfl,q⟩;have d:=av (m.trans (q.1.mono m.size));have P:=av q.2;clear q C m;cases t
 ·go_wp2_with fail
  go_ret
  exact⟨rfl,λ_=>d,λh=>(by cases h)⟩
 ·have V:ai l a 5 (ag b L c):=(d.cell (p:=⟨a,5,none⟩) G).trans A.1;have S:Hid (l.ownsRow base 3 1 (ag b L c) L xs):=bC U (aO d λ_=>False) λ_ _ h=>h;have g:=av d.size;have Q:Hid (l.frozen? ⟨a,5,none⟩=false):=by
   have i:=A.2;unfold World.frozen? at i ⊢;rw[d.out.block a G];exact i
  go_wp2_with (first
   | (at_builtin;refine wpList_append_lies _ rfl _ _ 107 rfl base 3 j _ 1 8 underlying107 n.1 n.2.1 n.2.2.1 n.2.2.2 rfl (by decide) (ag b L c) L xs rfl (S.alloc _) ⟨l.heap.size,0,none⟩ 1 1 [ae f] rfl rfl (World.news_of_block (cs:= #[ae f]) (t:=3) (fr:=(0,0)) (aK l _)) (by simp[Value.oneCell']) (by decide) (by unfold maxLen;omega) (by omega) (by have:=g.out;simp;omega) _ rfl ?_;intro Y X s H o E Z;have T:=av H;have R:=av o;have O:=av E;have aa:ai s a 5 (ag b L c):=(o.cell_far ⟨a,5,none⟩ (by show a<_;have:=g.out;simp;omega) (λe=>B e.symm)).trans ((aV _ _ |>.cell (p:=⟨a,5,none⟩) (by show a<_;have:=g.out;omega)).trans V);have f5:s.frozen? ⟨a,5,none⟩=false:=(o.frozen_far ⟨a,5,none⟩ (by show a<_;have:=g.out;simp;omega) (λe=>B e.symm)).trans (by have i:=Q.out;unfold World.frozen? at i ⊢;rw[(aV _ (.cells #[ae f] 3)).block a (by have:=g.out;omega)];exact i);clear H o E Z))
  go_ret
  refine⟨rfl,λh=>(by cases h),λ_=>⟨f,Y,X,s,P.out,T.out,?_,?_,rfl⟩⟩
  ·exact bH.trans (aO (d.alloc d.size _) _) (ew R) λ_ _ e=>e
  ·rcases O with e|e
   ·exact ak e
   ·have:=g.out;simp at e;exact am (by omega)
section
variable {P:Program} {ops:Array Oper} {Q:Exit->Act->bF} {md:Region.Mode} {S:bF} {X:Nat}
def kD(P:Program)(md:Region.Mode)(ops:Array Oper)(Q:Exit->Act->bF)(S:bF)(X:Nat):Nat->Array Bool->Act->ah->Prop
 | 0,listed,a,w=>Region.ready md ops listed=[]/\Q .normal a w
 | fuel+1,listed,a,w=>
  (Region.ready md ops listed=[]->Q .normal a w)/\
  ∀i∈Region.ready md ops listed,wpOp P ops Q i (λb w'=>(i≠X->S w')/\kD P md ops Q S X fuel (listed.setIfInBounds i true) b w') a w
theorem xt:∀(fuel:Nat)(b:Array Bool)(a:Act)(w:ah),kD P md ops Q S X fuel b a w->wpAny P md ops Q fuel b a w
 | 0,_,_,_,h=>h
 | fuel+1,_,_,_,h=>⟨h.1,λi e=>wpOp_mono (λc w' d=>xt fuel _ c w' d.2) (h.2 i e)⟩
theorem A9{i:Nat}{m:Oper}{v:az}(z:ops[i]?=some m)(G:∀(j:Nat)(o:Oper) cs b,ops[j]?=some o->o.op≠.select cs b)(L:∀c a w,Q (.panic c) (a.put m.dst v) w->Q (.panic c) a w)(M:∀d,ops[X]?=some d->∃e∈d.after,Region.binds md e=true/\e.on=i):∀(p:Nat)(f:Array Bool)(a:Act)(w:ah),(∀j d,ops[j]?=some d->j≠i->f.getD j true=false->(∀e∈d.after,Region.binds md e=true->e.on≠i)->m.apart ops d=true)-> i∈Region.ready md ops f->YieldsIf P ops S m v a->S w-> kD P md ops Q S X p (f.setIfInBounds i true) (a.put m.dst v) w->kD P md ops Q S X (p+1) f a w:=by
 intro p
 induction p with
 | zero=>
  intro f a w _ l u q n;refine⟨λx=>(by rw[x]at l;cases l),λj s=>?_⟩;by_cases g:j=i
  ·subst g;exact u.wpOp z q ⟨λ_=>q,n⟩
  ·have:=ready_mono s g;rw[n.1]at this;cases this
 | succ p ih=>
  intro f a w B l u q n;refine⟨λx=>(by rw[x]at l;cases l),λj s=>?_⟩;by_cases g:j=i
  ·subst g;exact u.wpOp z q ⟨λ_=>q,n⟩
  ·have h:=n.2 j (ready_mono s g);obtain⟨D,d,t,N⟩:=mem_ready.1 s;have F:∀e∈d.after,Region.binds md e=true->e.on≠i:=λe T O V=>by
    have h:=N e T O;have A:=(mem_ready.1 l).1;rw[V]at h;rcases Nat.lt_or_ge i f.size with y|y
    ·simp[y]at A h;rw[A]at h;cases h
    ·simp[Array.getElem?_eq_none y]at h
   have E:j≠X:=λe=>by
    obtain⟨J,U,R,ab⟩:=M d (by rw[<-e];exact t);exact F J U R ab
   have K:=wpOp_putIf t (B j d t g D F) (λcs b=>G i m cs b z) (λcs b=>G j d cs b t) L u h
   have W:∀k ok,ops[k]?=some ok->k≠i->(f.setIfInBounds j true).getD k true=false->
     (∀e∈ok.after,Region.binds md e=true->e.on≠i)->m.apart ops ok=true:=λk ok Y Z H aa=>by
    refine B k ok Y Z ?_ aa;by_cases C:j=k
    ·subst C;exact D
    ·rw[getD_set_ne true C]at H;exact H
   refine wpOp_mono (λI ad r=>⟨λ_=>r.2.1 E,ih (f.setIfInBounds j true) I ad W (ready_mono l (Ne.symm g)) r.1 (r.2.1 E) ?_⟩) K;rw[Array.setIfInBounds_comm _ _ g];exact r.2.2
def A8(md:Region.Mode)(ops:Array Oper)(X i:Nat):Bool:=((ops[X]?).map λo=>o.after.any λe=>Region.binds md e && e.on==i).getD false
theorem FO{i:Nat}(a:A8 md ops X i=true):∀b,ops[X]?=some b->∃e∈b.after,Region.binds md e=true/\e.on=i:=λb c=>by
 unfold A8 at a;rw[c]at a;simp only[lJ,Option.getD_some,Array.any_eq_true]at a;obtain⟨k,d,a⟩:=a;simp only[aS,cT]at a;exact⟨_,Array.getElem_mem d,a.1,a.2⟩
theorem br{i:Nat}{d:Oper}{v:az}{e:Nat}{b:Array Bool}{a:Act}{w:ah}(f:ops[i]?=some d)(n:Region.noSelect ops=true)(k:Region.free md ops b i=true)(m:(Region.ready md ops b).contains i=true)(o:A8 md ops X i=true)(h:∀c a w,Q (.panic c) (a.put d.dst v) w->Q (.panic c) a w)(l:d.guard=none)(p:∀w,S w->(execOp a.eval d).run P w=.ok (.value v) w)(j:S w)(g:kD P md ops Q S X e (b.setIfInBounds i true) (a.put d.dst v) w):kD P md ops Q S X (e+1) b a w:=
 A9 f (Region.noSelect_spec n) h (FO o) e b a w (Region.free_spec f k) (by simpa using m) (ak ⟨by simp[Region.wanted,l],p⟩) j g
theorem dw{i:Nat}{o:Oper}{d:Nat}{c:Array Bool}{a:Act}{w:ah}(h:Region.ready md ops c=[i])(n:ops[i]?=some o)(l:o.guard=none)(j:∀K:Act->ah->Prop,Hid (∀b w',(i≠X->S w')->(S w'->kD P md ops Q S X d (c.setIfInBounds i true) b w')->K b w')->o.wp P a w K Q)(m:i≠X):kD P md ops Q S X (d+1) c a w:=by
 refine⟨λe=>(by rw[h]at e;cases e),λq g=>?_⟩;rw[h]at g;obtain rfl:q=i:=by simpa using g
 unfold wpOp;simp only[n];have p:Region.wanted o (yielded ops a.tmps)=true:=by simp[Region.wanted,l]
 simp only[p,cC];exact ak (j _ λb w' f k=>⟨f,k (f m)⟩)
theorem ke{o:Oper}{c:Nat}{d:Array Bool}{a:Act}{w:ah}(i:Region.ready md ops d=[X])(m:ops[X]?=some o)(l:o.guard=none)(g:Region.ready md ops (d.setIfInBounds X true)=[])(j:∀K:Act->ah->Prop,Hid (∀b w',Q .normal b w'->K b w')->o.wp P a w K Q):kD P md ops Q S X (c+1) d a w:=by
 refine⟨λe=>(by rw[i]at e;cases e),λp h=>?_⟩;rw[i]at h;obtain rfl:p=X:=by simpa using h
 unfold wpOp;simp only[m];have n:Region.wanted o (yielded ops a.tmps)=true:=by simp[Region.wanted,l]
 simp only[n,cC];refine ak (j _ λb w' f=>⟨λk=>absurd rfl k,?_⟩);cases c with
 | zero=>exact⟨g,f⟩
 | succ c=>exact⟨λ_=>f,by rw[g];simp⟩
theorem kh(S:bF)(X:Nat){id:Nat}{a:Act}{w:ah}(c:P.follows .mixedOrders=true)(b:kD P .any ops Q S X ops.size (Array.replicate ops.size false) a w.drew):(Code.region id ops true).wp P Q a w:=
 wp_region_any c (xt _ _ _ _ b)
end
theorem KV:(Tryz.prog.info? 250).map (λi=>(i.zero,i.size,i.bytes))=some (some (.agg #[ae 0,ae 0,ae 0,af ⟨#[]⟩,ag none 0 0]),5,64):=by kernel_rfl
def Ov{N:Nat}(b:Int)(a:Tm (N+1)):List az:=[ae b,ae a.1.1,ae a.1.2.1,af a.1.2.2,ag a.2.1.1 a.2.2.length a.2.1.2]
def PX(N base k:Nat)(h:ay)(L i:Nat)(xs:dH)(t:Bool)(j:Int->Prop)(o:Option (Tm (N+1)))(w:ah)(e:Ending)(w':ah):Prop:=
 e=aw (.bool (t && o.isSome))/\((t && o.isSome)=false->ap w w')/\
  ((t && o.isSome)=true->∃(g:Int)(f:Tm (N+1))(a c:Nat)(b:ah),j g/\aJ (N+1) f (N+1) (o.getD (xx N))=true/\In b.heap.size b (N+1) f/\cF (λd=>w.heap.size<=d/\d≠a) (N+1) f/\b.ownsRow base 250 5 (ag (some ⟨a,0,none⟩) (L+1) c) (L+1) (xs++Ov g f)/\bH (λd=>(Value.slice h L i).ownBlock=some d) w b/\((Value.slice h L i).ownBlock=some a\/w.heap.size<=a)/\w'=b.setCell ⟨k,3,none⟩ (ag (some ⟨a,0,none⟩) (L+1) c))
theorem Ji(N:Nat)(k ab ad:Int)(al:aq)(xa:ay)(an xc:Nat)(y0 y1:Int)(y2:aq)(ya:ay)(yl yc:Nat)(nm:aq)(a6:Int)(base f:Nat)(h:ay)(L j:Nat)(xs:dH)(w:ah)(t:Bool)(ao:Int->Prop)(o:Option (Tm (N+1)))(bF:L<=10000)(aT:f<w.heap.size)(bI:base<=w.heap.size)(ar:Hid (ai w f 3 (ag h L j)/\w.frozen? ⟨f,3,none⟩=false))(aC:Hid (w.ownsRow base 250 5 (ag h L j) L xs))(bb:Hid ((Value.slice h L j).ownBlock≠some f))(aB:Hid (∀W,ap w W->au 238 #[aE f,.agg #[ae ab,ae ad,af al,ag xa an xc]] W λe w'=>∃y,e=aw (ax #[ae y,.bool t])/\Hid (ap W w'/\ao y)))(aD:Hid (∀W,ap w W->au 179 #[aE f,.agg #[ae y0,ae y1,af y2,ag ya yl yc]] W (xV N o W))):au 228 #[aE f,.agg #[ae k,ae ab,ae ad,af al,ag xa an xc,ae y0,ae y1,af y2,ag ya yl yc,af nm,ae a6]] w (PX N base f h L j xs t ao o w):=by
 obtain⟨I,hit,a1,a2,a3⟩:=bS KV;have O:Hid (Tryz.prog.info? 250=some I/\I.zero=some (.agg #[ae 0,ae 0,ae 0,af ⟨#[]⟩,ag none 0 0])/\I.size=5/\I.bytes=64):=⟨hit,a1,a2,a3⟩;clear hit a1 a2 a3;have aH:Hid (∃R A,(R=w.alloc (.cells #[ae k,ae ab,ae ad,af al,ag xa an xc,ae y0,ae y1,af y2,ag ya yl yc,af nm,ae a6] 268)/\A=w.heap.size)/\ap w R/\∀W,ap R W->ai W A 5 (ae y0)/\ai W A 6 (ae y1)/\ai W A 7 (af y2)/\ai W A 8 (ag ya yl yc)):=by
  refine⟨_,_,⟨rfl,rfl⟩,aV _ _,λW bi=>?_⟩;have c:=(bi.block w.heap.size (by simp)).trans (aK w _);exact⟨aj c 5,aj c 6,aj c 7,aj c 8⟩
 go_enter func228,ntmps228;go_wp2_with fail;obtain⟨R,A,⟨a4,aZ⟩,aQ,aS⟩:=aH.out;rw[<-a4,<-aZ];have S:=av aQ;have a8:=av aS;clear a4 aZ aQ aS aH;refine(aB _ S).mono ?_;rintro e bJ ⟨y,rfl,J⟩;have C:=av (S.trans (J.1.mono S.size));have a9:=av J.2;obtain⟨bA,bB,bD,bE⟩:=a8 _ J.1;clear J aB;cases t
 ·go_wp2_with fail
  go_ret
  exact⟨rfl,λ_=>C,λc=>(by cases c)⟩
 ·go_wp2_with fail;refine(aD _ C).mono ?_;rintro e u ⟨a,rfl,B⟩;have D:=av (C.trans (B.1.mono C.size));cases o with
  | none=>
   simp only[nP];go_wp2_with fail
   go_ret
   exact⟨rfl,λ_=>D.alloc D.size _,λc=>(by cases c)⟩
  | some bK=>
   simp only[lI];have aL:=av B.2.1;have bf:=av B.2.2.1;have bg:=av B.2.2.2;have be:=av C.size;have aI:Hid (∃d p,(d=u.alloc (.cells #[ae a.1.1,ae a.1.2.1,af a.1.2.2,ag a.2.1.1 a.2.2.length a.2.1.2] 54)/\p=u.heap.size)/\ap u d/\d.heap[p]?=some (.cells #[ae a.1.1,ae a.1.2.1,af a.1.2.2,ag a.2.1.1 a.2.2.length a.2.1.2] 54)/\d.heap.size=u.heap.size+1):=⟨_,_,⟨rfl,rfl⟩,aV _ _,aK _ _,by simp⟩;clear B aD;go_wp2_with fail;obtain⟨d,p,⟨a5,aa⟩,r⟩:=aI.out;rw[<-a5,<-aa];have bd:Hid (p=u.heap.size):=aa;replace r:=av r;clear a5 aa aI;have M:=av (D.trans (r.1.mono D.size));obtain⟨l,aW⟩:∃l:Obj,l=.cells #[ae y,ae a.1.1,ae a.1.2.1,af a.1.2.2,ag a.2.1.1 a.2.2.length a.2.1.2] 250:=⟨_,rfl⟩;have U:Hid (∀W:ah,ap d W->ai W f 3 (ag h L j)/\ai W p 0 (ae a.1.1)/\ai W p 1 (ae a.1.2.1)/\ai W p 2 (af a.1.2.2)/\ai W p 3 (ag a.2.1.1 a.2.2.length a.2.1.2)):=λW c=>by
    have Q:=(c.block p (aR.1 r.2.1).1).trans r.2.1;have Z:=M.trans (c.mono M.size);exact⟨(Z.cell (p:=⟨f,3,none⟩) aT).trans ar.1,aj Q 0,aj Q 1,aj Q 2,aj Q 3⟩
   have E:Hid (ap d (d.alloc l).drew):=(aV _ l).drew;have s:=U d.drew (aG _ _).drew;have X:=av (U _ E);have K:=av (M.trans (E.mono M.size));have aA:Hid ((d.alloc l).drew.ownsRow base 250 5 (ag h L j) L xs):=bC aC (aO K λ_=>False) λ_ _ c=>c;have az:Hid ((d.alloc l).drew.heap[d.heap.size]?=some l):=aK d l;have F:Hid ((d.alloc l).drew.heap.size=d.heap.size+1):=(show _=_ by simp[World.drew]);have P:Hid (d.heap.size=u.heap.size+1/\w.heap.size<=u.heap.size):=⟨r.2.2,D.size⟩;have aM:Hid (In (d.alloc l).drew.heap.size (d.alloc l).drew (N+1) a):=(aL.below (r.1.trans (E.mono r.1.size))).mono (by have:=r.1.size;have:=E.size;omega);rw[aW]at E X K aA az F aM;clear aW l;obtain⟨bs,bv,bw,bx,bz⟩:=U d (aG _ _);refine wp_region_noPanic ?_;refine kh (λW=>ai W f 3 (ag h L j)/\ai W p 0 (ae a.1.1)/\ai W p 1 (ae a.1.2.1)/\ai W p 2 (af a.1.2.2)/\ai W p 3 (ag a.2.1.1 a.2.2.length a.2.1.2)) 12 (by kernel_rfl) ?_
   try simp only[fM]
   refine br (i:=0) (v:= ?_) rfl (by kernel_rfl) (by kernel_rfl) (by kernel_rfl) (by kernel_rfl) (λ_ _ _ c=>c) rfl ?_ s ?_;rotate_left
   ·intro w' g
    try dsimp only at g
    go_simp
    try with_reducible rfl
   try simp only[Act.put,cr]
   refine br (i:=1) (v:= ?_) rfl (by kernel_rfl) (by kernel_rfl) (by kernel_rfl) (by kernel_rfl) (λ_ _ _ c=>c) rfl ?_ s ?_;rotate_left
   ·intro w' g
    try dsimp only at g
    go_simp
    try with_reducible rfl
   try simp only[Act.put]
   refine br (i:=2) (v:= ?_) rfl (by kernel_rfl) (by kernel_rfl) (by kernel_rfl) (by kernel_rfl) (λ_ _ _ c=>c) rfl ?_ s ?_;rotate_left
   ·intro w' g
    try dsimp only at g
    go_simp
    try with_reducible rfl
   try simp only[Act.put]
   refine br (i:=3) (v:= ?_) rfl (by kernel_rfl) (by kernel_rfl) (by kernel_rfl) (by kernel_rfl) (λ_ _ _ c=>c) rfl ?_ s ?_;rotate_left
   ·intro w' g
    try dsimp only at g
    go_simp
    try with_reducible rfl
   try simp only[Act.put]
   refine br (i:=4) (v:= ?_) rfl (by kernel_rfl) (by kernel_rfl) (by kernel_rfl) (by kernel_rfl) (λ_ _ _ c=>c) rfl ?_ s ?_;rotate_left
   ·intro w' g
    try dsimp only at g
    go_simp
    try with_reducible rfl
   try simp only[Act.put]
   refine br (i:=5) (v:= ?_) rfl (by kernel_rfl) (by kernel_rfl) (by kernel_rfl) (by kernel_rfl) (λ_ _ _ c=>c) rfl ?_ s ?_;rotate_left
   ·intro w' g
    try dsimp only at g
    go_simp
    try with_reducible rfl
   try simp only[Act.put]
   refine br (i:=6) (v:= ?_) rfl (by kernel_rfl) (by kernel_rfl) (by kernel_rfl) (by kernel_rfl) (λ_ _ _ c=>c) rfl ?_ s ?_;rotate_left
   ·intro w' g
    try dsimp only at g
    go_simp
    try with_reducible rfl
   try simp only[Act.put]
   refine br (i:=7) (v:= ?_) rfl (by kernel_rfl) (by kernel_rfl) (by kernel_rfl) (by kernel_rfl) (λ_ _ _ c=>c) rfl ?_ s ?_;rotate_left
   ·intro w' g
    try dsimp only at g
    go_simp
    try with_reducible rfl
   try simp only[Act.put]
   refine dw (i:=8) (by kernel_rfl) rfl rfl (λx m=>?_) (by decide)
   go_simp
   refine m _ _ (λ_=>X) (λbG=>?_);clear m x
   try simp only[Act.put,cr,dJ,dI]
   refine dw (i:=9) (by kernel_rfl) rfl rfl (λx m=>?_) (by decide);refine wp_append_lies _ _ _ 197 rfl base 250 I _ 5 64 underlying197 O.1 O.2.1 O.2.2.1 O.2.2.2 rfl (by decide) (ag h L j) L xs rfl aA ⟨d.heap.size,0,none⟩ 1 1 (Ov y a) rfl rfl (World.news_of_block (cs:= #[ae y,ae a.1.1,ae a.1.2.1,af a.1.2.2,ag a.2.1.1 a.2.2.length a.2.1.2]) (t:=250) (fr:=(0,0)) az) (by simp[Ov,Value.oneCell']) (by decide) (by unfold maxLen;omega) (by omega) (by have:=F.out;have:=P.out;omega) _ rfl ?_;intro G bh q aY z Y bj;have ba:Hid (bH (λn=>(Value.slice h L j).ownBlock=some n) w q):=bH.trans (aO K _) (ew z) λ_ _ e=>e;have a7:Hid ((Value.slice h L j).ownBlock=some G\/w.heap.size<=G):=by
    rcases Y with e|e
    ·exact ak e
    ·exact am (by have:=F.out;have:=P.out;omega)
   have bc:=av aY;have V:Hid (∀b,(Value.slice h L j).ownBlock=some b->b<w.heap.size):=λb Z=>(aC.lt b Z).2;have aJ:Hid (In q.heap.size q (N+1) a/\cF (λn=>w.heap.size<=n/\n≠G) (N+1) a):=by
    have aX:cF (λn=>w.heap.size<=n/\n<u.heap.size) (N+1) a:=(In.offB bf aL).mono λn H=>⟨aF be H.1,H.2⟩;refine⟨aM.kee (ew z) (aX.mono λn H e=>?_),aX.mono λn H=>⟨H.1,λe=>?_⟩⟩
    ·have:=V n e;omega
    ·rcases Y with aN|aN
     ·have:=V G aN;omega
     ·have:=F.out;have:=P.out;omega
   have T:Hid ((ai q f 3 (ag h L j)/\ai q p 0 (ae a.1.1)/\ai q p 1 (ae a.1.2.1)/\ai q p 2 (af a.1.2.2)/\ai q p 3 (ag a.2.1.1 a.2.2.length a.2.1.2))/\q.frozen? ⟨f,3,none⟩=false):=by
    have bL:=F.out;have bM:=P.out;have bN:=bd.out;have bk:some p≠(Value.slice h L j).ownBlock:=λe=>by
     have:=V p e.symm;omega
    have a0:some f≠(Value.slice h L j).ownBlock:=λe=>bb e.symm;have k:=λbl=>z.cell_far ⟨p,bl,none⟩ (by show p<_;omega) bk;obtain⟨bm,bn,bo,bp,bq⟩:=X;refine⟨⟨(z.cell_far ⟨f,3,none⟩ (by show f<_;omega) a0).trans bm,(k 0).trans bn,(k 1).trans bo,(k 2).trans bp,(k 3).trans bq⟩,?_⟩;rw[z.frozen_far ⟨f,3,none⟩ (by show f<_;omega) a0];have aU:=ar.2;unfold World.frozen? at aU ⊢;rw[K.out.block f aT];exact aU
   clear aY z Y bj;refine m _ _ (λ_=>T.1) (λaP=>?_);clear m x
   try simp only[Act.put,cr]
   refine dw (i:=10) (by kernel_rfl) rfl rfl (λx m=>?_) (by decide)
   go_simp
   refine m _ _ (λ_=>aP) (λ_=>?_);clear m x
   try simp only[Act.put,cr,dJ,dI]
   refine br (i:=11) (v:= ?_) rfl (by kernel_rfl) (by kernel_rfl) (by kernel_rfl) (by kernel_rfl) (λ_ _ _ c=>c) rfl ?_ aP ?_;rotate_left
   ·intro w' g
    try dsimp only at g
    go_simp
    try with_reducible rfl
   try simp only[Act.put,cr]
   have bu:=T.2;have bt:=T.1.1;refine ke (by kernel_rfl) rfl rfl (by kernel_rfl) (λx m=>?_)
   go_simp
   refine m _ _ (NoPanic.normal ?_);clear m x
   try simp only[Act.put,cr,dJ,dI]
   go_wp2_with fail
   go_ret
   exact⟨rfl,λc=>(by cases c),λ_=>⟨y,a,G,bh,q,a9.out,bg.out,aJ.out.1,aJ.out.2,bc.out,ba.out,a7.out,rfl⟩⟩
theorem Il:(Tryz.prog.info? 247).map (λi=>(i.zero,i.size,i.bytes))=some (some (.agg #[ae 0,af ⟨#[]⟩,ae 0,ae 0,af ⟨#[]⟩,ag none 0 0]),6,80):=by kernel_rfl
theorem dR{w:ah}{b o:Nat}{v:az}(j:Nat)(a:j≠o):(w.setCell ⟨b,o,none⟩ v).cell? ⟨b,j,none⟩=w.cell? ⟨b,j,none⟩:=by
 unfold World.cell? World.setCell;simp only[bR];cases h:w.heap[b]? with
 | none=>simp
 | some c=>cases c<;>simp[Ne.symm a]
theorem ib{w:ah}{b o j:Nat}{v:az}:(w.setCell ⟨b,o,none⟩ v).frozen? ⟨b,j,none⟩=w.frozen? ⟨b,j,none⟩:=by
 unfold World.frozen? World.setCell;simp only[bR];cases h:w.heap[b]? with
 | none=>simp
 | some a=>cases a<;>simp
def Pw{N:Nat}(b:Int)(nm:aq)(a:Tm (N+1)):List az:=[ae b,af nm,ae a.1.1,ae a.1.2.1,af a.1.2.2,ag a.2.1.1 a.2.2.length a.2.1.2]
def PY(N base g:Nat)(h:ay)(L i:Nat)(xs:dH)(t:Bool)(next:Int)(nm:aq)(l m:Nat)(o:Option (Tm (N+1)))(w:ah)(e:Ending)(w':ah):Prop:=
 e=aw (.bool (o.isSome && t))/\((o.isSome && t)=false->ap w w')/\
  ((o.isSome && t)=true->∃(f:Tm (N+1))(a c:Nat)(b j k:ah),aJ (N+1) f (N+1) (o.getD (xx N))=true/\In b.heap.size b (N+1) f/\cF (λd=>w.heap.size<=d/\d≠a) (N+1) f/\b.ownsRow base 247 6 (ag (some ⟨a,0,none⟩) (L+1) c) (L+1) (xs++Pw next nm f)/\bH (λd=>(Value.slice h L i).ownBlock=some d) w b/\((Value.slice h L i).ownBlock=some a\/w.heap.size<=a)/\j=b.setCell ⟨g,4,none⟩ (ag (some ⟨a,0,none⟩) (L+1) c)/\k=(dk j l (m*4) (ae 3) (ae next) (af ⟨#[]⟩) (ag none 0 0)).drew/\w'=k.setCell ⟨g,2,none⟩ (ae (next+1)))
theorem Fu(N:Nat)(k T U:Int)(V:aq)(xa:ay)(X xc:Nat)(y0 y1:Int)(y2:aq)(ya:ay)(yl yc:Nat)(nm:aq)(g:Nat)(base f:Nat)(r:ay)(L s:Nat)(xs:dH)(w:ah)(o:Option (Tm (N+1)))(d P:Nat)(next:Int)(H ab:Int)(ad:aq)(ai:ay)(an al:Nat)(cQ:g<4)(cK:L<=10000)(aW:f<w.heap.size)(ba:d<w.heap.size)(bM:f≠d)(cL:base<=w.heap.size)(cO:0<=next)(cP:next<=100000)(cw:nm.size<=2048)(K:Hid (w.cell? ⟨f,4,none⟩=some (ag r L s)/\w.cell? ⟨f,0,none⟩=some (ag (some ⟨d,0,none⟩) 4 P)/\w.cell? ⟨f,2,none⟩=some (ae next)/\(∀j,w.frozen? ⟨f,j,none⟩=false)/\∀j,w.frozen? ⟨d,j,none⟩=false))(bq:Hid (w.ownsRow base 247 6 (ag r L s) L xs))(a4:Hid ((Value.slice r L s).ownBlock≠some f/\(Value.slice r L s).ownBlock≠some d))(J:Hid (w.cell? ⟨d,g*4,none⟩=some (ae H)/\w.cell? ⟨d,g*4+1,none⟩=some (ae ab)/\w.cell? ⟨d,g*4+2,none⟩=some (af ad)/\w.cell? ⟨d,g*4+3,none⟩=some (ag ai an al)))(a1:Hid (∀W,au 234 #[.agg #[ae H,ae ab,af ad,ag ai an al]] W λe w'=>e=aw (.bool (!(H==6)))/\ap W w'))(bs:Hid (∀W,ap w W->au 179 #[aE f,.agg #[ae y0,ae y1,af y2,ag ya yl yc]] W (xV N o W))):au 229 #[aE f,.agg #[ae k,ae T,ae U,af V,ag xa X xc,ae y0,ae y1,af y2,ag ya yl yc,af nm,ae g]] w (PY N base f r L s xs (H==6) next nm d g o w):=by
 obtain⟨aJ,hit,bV,bW,bX⟩:=bS Il;have aN:Hid (Tryz.prog.info? 247=some aJ/\aJ.zero=some (.agg #[ae 0,af ⟨#[]⟩,ae 0,ae 0,af ⟨#[]⟩,ag none 0 0])/\aJ.size=6/\aJ.bytes=80):=⟨hit,bV,bW,bX⟩;clear hit bV bW bX;obtain⟨t,bU⟩:∃t,t=(H==6):=⟨_,rfl⟩;rw[<-bU]at a1 ⊢;clear bU;have bt:Hid (∃aL h,(aL=w.alloc (.cells #[ae k,ae T,ae U,af V,ag xa X xc,ae y0,ae y1,af y2,ag ya yl yc,af nm,ae g] 268)/\h=w.heap.size)/\ap w aL/\aL.heap[h]?=some (.cells #[ae k,ae T,ae U,af V,ag xa X xc,ae y0,ae y1,af y2,ag ya yl yc,af nm,ae g] 268)):=⟨_,_,⟨rfl,rfl⟩,aV _ _,aK w _⟩;go_enter func229,ntmps229;go_wp2_with fail;obtain⟨aL,h,⟨bY,aX⟩,bG,bb⟩:=bt.out;rw[<-bY,<-aX];have ar:=av bG;have bi:=av bb;have aB:Hid (h<aL.heap.size/\w.heap.size<=h):=⟨(aR.1 bb).1,by omega⟩;clear bY aX bG bb bt;refine(bs _ ar).mono ?_;rintro e E ⟨a,rfl,O⟩;have ax:=av (ar.trans (O.1.mono ar.size));have b6:Hid (E.heap[h]?=some (.cells #[ae k,ae T,ae U,af V,ag xa X xc,ae y0,ae y1,af y2,ag ya yl yc,af nm,ae g] 268)):=(O.1.block h aB.1).trans bi;have bp:Hid (h<E.heap.size):=bf aB.1 O.1.size;have bA:=av O.2.1;have cc:=av O.2.2.1;have cd:=av O.2.2.2;have cb:=av ar.size;clear O bs ar bi;have bu:Hid (∃z p,(z=E.alloc (.cells #[ae a.1.1,ae a.1.2.1,af a.1.2.2,ag a.2.1.1 a.2.2.length a.2.1.2] 54)/\p=E.heap.size)/\ap E z/\z.heap[p]?=some (.cells #[ae a.1.1,ae a.1.2.1,af a.1.2.2,ag a.2.1.1 a.2.2.length a.2.1.2] 54)/\z.heap.size=E.heap.size+1):=⟨_,_,⟨rfl,rfl⟩,aV _ _,aK _ _,by simp⟩;cases o with
 | none=>
  simp only[nP];go_wp2_with fail;go_region
  all_goals
   go_wp2_with fail
   go_ret
   exact⟨rfl,λ_=>(ax.alloc ax.size _).drew,λc=>(by cases c)⟩
 | some cV=>
  simp only[lI];go_wp2_with fail;obtain⟨z,p,⟨bZ,M⟩,D⟩:=bu.out;rw[<-bZ,<-M];have b7:Hid (p=E.heap.size):=M;replace D:=av D;clear bZ M bu;have I:=av (ax.trans (D.1.mono ax.size));have a2:Hid (∀W:ah,ap z W->W.heap[h]?=some (.cells #[ae k,ae T,ae U,af V,ag xa X xc,ae y0,ae y1,af y2,ag ya yl yc,af nm,ae g] 268)/\W.heap[p]?=some (.cells #[ae a.1.1,ae a.1.2.1,af a.1.2.2,ag a.2.1.1 a.2.2.length a.2.1.2] 54)):=λW c=>⟨(c.block h (by have:=bp.out;have:=D.2.2;omega)).trans ((D.1.block h bp).trans b6),(c.block p (aR.1 D.2.1).1).trans D.2.1⟩;have aA:Hid (∀W:ah,ap z W->(W.cell? ⟨f,0,none⟩=some (ag (some ⟨d,0,none⟩) 4 P)/\W.cell? ⟨h,10,none⟩=some (ae g))/\W.cell? ⟨d,g*4,none⟩=some (ae H)/\W.cell? ⟨d,g*4+1,none⟩=some (ae ab)/\W.cell? ⟨d,g*4+2,none⟩=some (af ad)/\W.cell? ⟨d,g*4+3,none⟩=some (ag ai an al)):=λW c=>by
   have R:=I.trans (c.mono I.size);have aU:=λj=>R.cell (p:=⟨d,j,none⟩) ba;exact⟨⟨(R.cell (p:=⟨f,0,none⟩) aW).trans K.2.1,aj (a2 W c).1 10⟩,(aU _).trans J.1,(aU _).trans J.2.1,(aU _).trans J.2.2.1,(aU _).trans J.2.2.2⟩
  obtain⟨⟨cl,cm⟩,cn,co,cp,cq⟩:=aA.out z (aG _ _);have Z:Hid (ap z z.drew):=(aG _ _).drew;have cT:(0:Int)<=(g:Int):=by omega
  have cU:(g:Int)<4:=by omega
  have bm:=av (a1 z.drew);clear a1;cases t
  ·go_region_held3 (λW=>(W.cell? ⟨f,0,none⟩=some (ag (some ⟨d,0,none⟩) 4 P)/\W.cell? ⟨h,10,none⟩=some (ae g))/\W.cell? ⟨d,g*4,none⟩=some (ae H)/\W.cell? ⟨d,g*4+1,none⟩=some (ae ab)/\W.cell? ⟨d,g*4+2,none⟩=some (af ad)/\W.cell? ⟨d,g*4+3,none⟩=some (ag ai an al)) (first|(go_keep;done)|exact aA _ Z|exact aA _ A) ((first
     | (go_at_call 234;refine bm.mono ?_;rintro e S ⟨rfl,aD⟩;have A:=av (Z.trans (aD.mono Z.size));clear aD)))
   go_wp2_with fail
   go_ret
   exact⟨rfl,λ_=>I.trans (A.mono I.size),λc=>(by cases c)⟩
  ·go_region_held3 (λW=>(W.cell? ⟨f,0,none⟩=some (ag (some ⟨d,0,none⟩) 4 P)/\W.cell? ⟨h,10,none⟩=some (ae g))/\W.cell? ⟨d,g*4,none⟩=some (ae H)/\W.cell? ⟨d,g*4+1,none⟩=some (ae ab)/\W.cell? ⟨d,g*4+2,none⟩=some (af ad)/\W.cell? ⟨d,g*4+3,none⟩=some (ag ai an al)) (first|(go_keep;done)|exact aA _ Z|exact aA _ A) ((first
     | (go_at_call 234;refine bm.mono ?_;rintro e S ⟨rfl,aD⟩;have A:=av (Z.trans (aD.mono Z.size));clear aD)))
   clear cl cm cn co cp cq;go_wp2_with fail;have bg:=av (I.trans (A.mono I.size));have aP:Hid (∀W:ah,ap S W->W.cell? ⟨f,4,none⟩=some (ag r L s)/\W.cell? ⟨f,2,none⟩=some (ae next)/\W.cell? ⟨h,9,none⟩=some (af nm)/\W.cell? ⟨p,0,none⟩=some (ae a.1.1)/\W.cell? ⟨p,1,none⟩=some (ae a.1.2.1)/\W.cell? ⟨p,2,none⟩=some (af a.1.2.2)/\W.cell? ⟨p,3,none⟩=some (ag a.2.1.1 a.2.2.length a.2.1.2)):=λW c=>by
    have bF:=A.trans (c.mono A.size);have R:=I.trans (bF.mono I.size);obtain⟨aX,M⟩:=a2.out W bF;exact⟨(R.cell (p:=⟨f,4,none⟩) aW).trans K.1,(R.cell (p:=⟨f,2,none⟩) aW).trans K.2.2.1,aj aX 9,aj M 0,aj M 1,aj M 2,aj M 3⟩
   have x:=aP S.drew (aG _ _).drew;have bl:Hid (ap S S.drew):=(aG _ _).drew;obtain⟨ce,d3,b2,ch,ci,cj,ck⟩:=aP.out S (aG _ _);have b8:=av (eu nm S.drew cw);refine wp_region_noPanic ?_;refine kh (λW=>W.cell? ⟨f,4,none⟩=some (ag r L s)/\W.cell? ⟨f,2,none⟩=some (ae next)/\W.cell? ⟨h,9,none⟩=some (af nm)/\W.cell? ⟨p,0,none⟩=some (ae a.1.1)/\W.cell? ⟨p,1,none⟩=some (ae a.1.2.1)/\W.cell? ⟨p,2,none⟩=some (af a.1.2.2)/\W.cell? ⟨p,3,none⟩=some (ag a.2.1.1 a.2.2.length a.2.1.2)) 18 (by kernel_rfl) ?_
   try simp only[fM]
   refine br (i:=0) (v:= ?_) rfl (by kernel_rfl) (by kernel_rfl) (by kernel_rfl) (by kernel_rfl) (λ_ _ _ c=>c) rfl ?_ x ?_;rotate_left
   ·intro w' l
    try dsimp only at l
    go_simp
    try with_reducible rfl
   try simp only[Act.put,cr]
   refine br (i:=1) (v:= ?_) rfl (by kernel_rfl) (by kernel_rfl) (by kernel_rfl) (by kernel_rfl) (λ_ _ _ c=>c) rfl ?_ x ?_;rotate_left
   ·intro w' l
    try dsimp only at l
    go_simp
    try with_reducible rfl
   try simp only[Act.put]
   refine br (i:=2) (v:= ?_) rfl (by kernel_rfl) (by kernel_rfl) (by kernel_rfl) (by kernel_rfl) (λ_ _ _ c=>c) rfl ?_ x ?_;rotate_left
   ·intro w' l
    try dsimp only at l
    go_simp
    try with_reducible rfl
   try simp only[Act.put]
   refine br (i:=3) (v:= ?_) rfl (by kernel_rfl) (by kernel_rfl) (by kernel_rfl) (by kernel_rfl) (λ_ _ _ c=>c) rfl ?_ x ?_;rotate_left
   ·intro w' l
    try dsimp only at l
    go_simp
    try with_reducible rfl
   try simp only[Act.put]
   refine br (i:=4) (v:= ?_) rfl (by kernel_rfl) (by kernel_rfl) (by kernel_rfl) (by kernel_rfl) (λ_ _ _ c=>c) rfl ?_ x ?_;rotate_left
   ·intro w' l
    try dsimp only at l
    go_simp
    try with_reducible rfl
   try simp only[Act.put]
   refine br (i:=5) (v:= ?_) rfl (by kernel_rfl) (by kernel_rfl) (by kernel_rfl) (by kernel_rfl) (λ_ _ _ c=>c) rfl ?_ x ?_;rotate_left
   ·intro w' l
    try dsimp only at l
    go_simp
    try with_reducible rfl
   try simp only[Act.put]
   refine br (i:=6) (v:= ?_) rfl (by kernel_rfl) (by kernel_rfl) (by kernel_rfl) (by kernel_rfl) (λ_ _ _ c=>c) rfl ?_ x ?_;rotate_left
   ·intro w' l
    try dsimp only at l
    go_simp
    try with_reducible rfl
   try simp only[Act.put]
   refine br (i:=7) (v:= ?_) rfl (by kernel_rfl) (by kernel_rfl) (by kernel_rfl) (by kernel_rfl) (λ_ _ _ c=>c) rfl ?_ x ?_;rotate_left
   ·intro w' l
    try dsimp only at l
    go_simp
    try with_reducible rfl
   try simp only[Act.put]
   refine br (i:=8) (v:= ?_) rfl (by kernel_rfl) (by kernel_rfl) (by kernel_rfl) (by kernel_rfl) (λ_ _ _ c=>c) rfl ?_ x ?_;rotate_left
   ·intro w' l
    try dsimp only at l
    go_simp
    try with_reducible rfl
   try simp only[Act.put]
   refine br (i:=9) (v:= ?_) rfl (by kernel_rfl) (by kernel_rfl) (by kernel_rfl) (by kernel_rfl) (λ_ _ _ c=>c) rfl ?_ x ?_;rotate_left
   ·intro w' l
    try dsimp only at l
    go_simp
    try with_reducible rfl
   try simp only[Act.put]
   refine br (i:=10) (v:= ?_) rfl (by kernel_rfl) (by kernel_rfl) (by kernel_rfl) (by kernel_rfl) (λ_ _ _ c=>c) rfl ?_ x ?_;rotate_left
   ·intro w' l
    try dsimp only at l
    go_simp
    try with_reducible rfl
   try simp only[Act.put]
   refine br (i:=12) (v:= ?_) rfl (by kernel_rfl) (by kernel_rfl) (by kernel_rfl) (by kernel_rfl) (λ_ _ _ c=>c) rfl ?_ x ?_;rotate_left
   ·intro w' l
    try dsimp only at l
    go_simp
    try with_reducible rfl
   try simp only[Act.put]
   refine dw (i:=11) (by kernel_rfl) rfl rfl (λG q=>?_) (by decide)
   go_simp
   refine b8.mono ?_;rintro e u ⟨rfl,bI⟩;have F:=av (bl.trans (bI.mono bl.size));have a8:=aP u F;refine q _ _ (λ_=>a8) (λ_=>?_);clear q G bI
   try simp only[Act.put,cr,dJ,dI]
   have bh:=av (bg.trans (F.mono bg.size));obtain⟨y,bP⟩:∃y:Obj,y=.cells #[ae next,af nm,ae a.1.1,ae a.1.2.1,af a.1.2.2,ag a.2.1.1 a.2.2.length a.2.1.2] 247:=⟨_,rfl⟩;have az:Hid (ap u (u.alloc y)):=aV _ y;have a5:=av (aP _ (F.trans (az.mono F.size)));have aZ:=av (bh.trans (az.mono bh.size));have bo:Hid ((u.alloc y).ownsRow base 247 6 (ag r L s) L xs):=bC bq (aO aZ λ_=>False) λ_ _ c=>c;have bn:Hid ((u.alloc y).heap[u.heap.size]?=some y):=aK u y;have aa:Hid ((u.alloc y).heap.size=u.heap.size+1):=(show _=_ by simp);have aC:Hid (z.heap.size=E.heap.size+1/\w.heap.size<=E.heap.size/\z.heap.size<=u.heap.size):=⟨D.2.2,ax.size,aF A.size F.size⟩;have bB:Hid (In (u.alloc y).heap.size (u.alloc y) (N+1) a):=(bA.below (D.1.trans ((A.trans ((F.trans (az.mono F.size)).mono A.size)).mono D.1.size))).mono (by have:=aa.out;have:=aC.out;omega);have a3:Hid ((u.alloc y).heap[h]?=some (.cells #[ae k,ae T,ae U,af V,ag xa X xc,ae y0,ae y1,af y2,ag ya yl yc,af nm,ae g] 268)):=(a2 _ (A.trans ((F.trans (az.mono F.size)).mono A.size))).1;rw[bP]at az a5 aZ bo bn aa bB a3;clear bP y;refine br (i:=13) (v:= ?_) rfl (by kernel_rfl) (by kernel_rfl) (by kernel_rfl) (by kernel_rfl) (λ_ _ _ c=>c) rfl ?_ a8 ?_;rotate_left
   ·intro w' l
    try dsimp only at l
    go_simp
    try with_reducible rfl
   try simp only[Act.put]
   refine dw (i:=14) (by kernel_rfl) rfl rfl (λG q=>?_) (by decide)
   go_simp
   refine q _ _ (λ_=>a5) (λct=>?_);clear q G
   try simp only[Act.put,cr,dJ,dI]
   refine dw (i:=15) (by kernel_rfl) rfl rfl (λG q=>?_) (by decide);refine wp_append_lies _ _ _ 198 rfl base 247 aJ _ 6 80 underlying198 aN.1 aN.2.1 aN.2.2.1 aN.2.2.2 rfl (by decide) (ag r L s) L xs rfl bo ⟨u.heap.size,0,none⟩ 1 1 (Pw next nm a) rfl rfl (World.news_of_block (cs:= #[ae next,af nm,ae a.1.1,ae a.1.2.1,af a.1.2.2,ag a.2.1.1 a.2.2.length a.2.1.2]) (t:=247) (fr:=(0,0)) bn) (by simp[Pw,Value.oneCell']) (by decide) (by unfold maxLen;omega) (by omega) (by have:=aa.out;have:=aC.out;omega) _ rfl ?_;intro Q a6 m bR ao a9 cv;have aQ:Hid (bH (λC=>(Value.slice r L s).ownBlock=some C) w m):=bH.trans (aO aZ _) (ew ao) λ_ _ e=>e;have b3:Hid ((Value.slice r L s).ownBlock=some Q\/w.heap.size<=Q):=by
    rcases a9 with e|e
    ·exact ak e
    ·exact am (by have:=aa.out;have:=aC.out;omega)
   have b5:=av bR;have aS:Hid (∀b,(Value.slice r L s).ownBlock=some b->b<w.heap.size):=λb R=>(bq.lt b R).2;have bz:Hid (In m.heap.size m (N+1) a/\cF (λC=>w.heap.size<=C/\C≠Q) (N+1) a):=by
    have bQ:cF (λC=>w.heap.size<=C/\C<E.heap.size) (N+1) a:=(In.offB cc bA).mono λC aI=>⟨aF cb aI.1,aI.2⟩;refine⟨bB.kee (ew ao) (bQ.mono λC aI e=>?_),bQ.mono λC aI=>⟨aI.1,λe=>?_⟩⟩
    ·have:=aS C e;omega
    ·rcases a9 with bD|bD
     ·have:=aS Q bD;omega
     ·have:=aa.out;have:=aC.out;omega
   have Y:Hid (m.heap[f]?=w.heap[f]? /\m.heap[d]?=w.heap[d]? /\m.heap[h]?=some (.cells #[ae k,ae T,ae U,af V,ag xa X xc,ae y0,ae y1,af y2,ag ya yl yc,af nm,ae g] 268)):=by
    refine⟨aQ.block f aW a4.1,aQ.block d ba a4.2,(ao.block h (aR.1 a3).1 λe=>?_).trans a3⟩;have:=aS h e.symm;have:=aB.2;omega
   have bj:Hid (m.cell? ⟨f,4,none⟩=some (ag r L s)/\m.cell? ⟨f,2,none⟩=some (ae next)/\m.cell? ⟨h,9,none⟩=some (af nm)/\m.cell? ⟨p,0,none⟩=some (ae a.1.1)/\m.cell? ⟨p,1,none⟩=some (ae a.1.2.1)/\m.cell? ⟨p,2,none⟩=some (af a.1.2.2)/\m.cell? ⟨p,3,none⟩=some (ag a.2.1.1 a.2.2.length a.2.1.2)):=by
    have cW:=aa.out;have cX:=aC.out;have cY:=b7.out;have cx:some p≠(Value.slice r L s).ownBlock:=λe=>by
     have:=aS p e.symm;omega
    have k:=λj=>ao.cell_far ⟨p,j,none⟩ (by show p<_;omega) cx;obtain⟨cD,cE,cS,cG,cH,cI,cJ⟩:=a5;have bL:=λj=>ao.cell_far ⟨f,j,none⟩ (by show f<_;omega) λe=>a4.1 e.symm;exact⟨(bL 4).trans cD,(bL 2).trans cE,aj Y.2.2 9,(k 0).trans cG,(k 1).trans cH,(k 2).trans cI,(k 3).trans cJ⟩
   clear bR ao a9 cv;refine q _ _ (λ_=>bj) (λa7=>?_);clear q G
   try simp only[Act.put,cr]
   refine dw (i:=16) (by kernel_rfl) rfl rfl (λG q=>?_) (by decide)
   go_simp
   refine q _ _ (λ_=>a7) (λ_=>?_);clear q G
   try simp only[Act.put,cr,dJ,dI]
   refine br (i:=17) (v:= ?_) rfl (by kernel_rfl) (by kernel_rfl) (by kernel_rfl) (by kernel_rfl) (λ_ _ _ c=>c) rfl ?_ a7 ?_;rotate_left
   ·intro w' l
    try dsimp only at l
    go_simp
    try with_reducible rfl
   try simp only[Act.put,cr]
   have cg:m.frozen? ⟨f,4,none⟩=false:=by
    have B:=K.2.2.2.1 4;unfold World.frozen? at B ⊢;rw[Y.out.1];exact B
   have cf:=bj.1;refine ke (by kernel_rfl) rfl rfl (by kernel_rfl) (λG q=>?_)
   go_simp
   refine q _ _ (NoPanic.normal ?_);clear q G
   try simp only[Act.put,cr,dJ,dI]
   have bT:h≠f:=by have:=aB.2;omega
   have cy:h≠d:=by have:=aB.2;omega
   have cM:f≠h:=λe=>bT e.symm;have cN:d≠h:=λe=>cy e.symm;have bO:d≠f:=λe=>bM e.symm;have bk:Hid (∀j,m.cell? ⟨d,j,none⟩=w.cell? ⟨d,j,none⟩/\m.frozen? ⟨d,j,none⟩=false):=λj=>by
    have B:=K.2.2.2.2 j;unfold World.frozen? at B ⊢;unfold World.cell?;rw[Y.out.2.1];exact⟨rfl,B⟩
   have a0:Hid (∀j,m.cell? ⟨f,j,none⟩=w.cell? ⟨f,j,none⟩/\m.frozen? ⟨f,j,none⟩=false):=λj=>by
    have B:=K.2.2.2.1 j;unfold World.frozen? at B ⊢;unfold World.cell?;rw[Y.out.1];exact⟨rfl,B⟩
   have bv:Hid (∃n,n=m.setCell ⟨f,4,none⟩ (ag (some ⟨Q,0,none⟩) (L+1) a6)/\(n.cell? ⟨f,0,none⟩=some (ag (some ⟨d,0,none⟩) 4 P)/\n.cell? ⟨h,10,none⟩=some (ae g)/\n.cell? ⟨f,2,none⟩=some (ae next))/\(n.cell? ⟨d,g*4,none⟩=some (ae H)/\n.cell? ⟨d,g*4+1,none⟩=some (ae ab)/\n.cell? ⟨d,g*4+2,none⟩=some (af ad)/\n.cell? ⟨d,g*4+3,none⟩=some (ag ai an al))/\(∀j,n.frozen? ⟨d,j,none⟩=false)/\n.frozen? ⟨f,2,none⟩=false):=by
    have bc:=bN m f 4 (ag (some ⟨Q,0,none⟩) (L+1) a6);have bJ:d<m.heap.size:=bf ba aQ.size;have cu:=bc.block d bJ bO;have aT:=λj=>((bc.cell j bJ bO).trans (bk j).1);refine⟨_,rfl,⟨(dR 0 (by decide)).trans ((a0 0).1.trans K.2.1),(bc.cell 10 (aR.1 Y.2.2).1 bT).trans (aj Y.2.2 10),(dR 2 (by decide)).trans ((a0 2).1.trans K.2.2.1)⟩,⟨(aT _).trans J.1,(aT _).trans J.2.1,(aT _).trans J.2.2.1,(aT _).trans J.2.2.2⟩,λj=>?_,?_⟩
    ·have B:=(bk j).2;unfold World.frozen? at B ⊢;rw[cu];exact B
    ·rw[ib];exact(a0 2).2
   go_wp2_with fail;obtain⟨n,bd,⟨b0,b1,be⟩,⟨cz,cA,cB,cC⟩,aH,bE⟩:=bv.out;rw[<-bd];have b9:=av bd;have f0:=aH (g*4);have f1:=aH (g*4+1);have f2:=aH (g*4+2);have f3:=aH (g*4+3);clear bd bv aH x a8 ct a7 ce d3 b2 ch ci cj ck cg cf;have b4:Hid (n.drew.cell? ⟨f,0,none⟩=some (ag (some ⟨d,0,none⟩) 4 P)/\n.drew.cell? ⟨h,10,none⟩=some (ae g)/\n.drew.cell? ⟨f,2,none⟩=some (ae next)):=⟨b0,b1,be⟩;go_region_held3 (λW=>W.cell? ⟨f,0,none⟩=some (ag (some ⟨d,0,none⟩) 4 P)/\W.cell? ⟨h,10,none⟩=some (ae g)/\W.cell? ⟨f,2,none⟩=some (ae next)) (first|exact b4|(go_keep;done)) (fail);have bx:Hid (∃aM,aM=(dk n d (g*4) (ae 3) (ae next) (af ⟨#[]⟩) (ag none 0 0)).drew/\aM.cell? ⟨f,2,none⟩=some (ae next)/\aM.frozen? ⟨f,2,none⟩=false):=by
    have bK:(dk n d (g*4) (ae 3) (ae next) (af ⟨#[]⟩) (ag none 0 0)).drew.heap[f]?=n.heap[f]? :=bw (w:=n) (o:=g*4) bM (ae 3) (ae next) (af ⟨#[]⟩) (ag none 0 0);refine⟨_,rfl,?_,?_⟩
    ·have c:=be;unfold World.cell? at c ⊢;rw[bK];exact c
    ·have c:=bE;unfold World.frozen? at c ⊢;rw[bK];exact c
   obtain⟨aM,aY,cR,b2⟩:=bx.out;have ca:=av aY;unfold dk at aY;rw[<-aY];clear aY bx b0 b1 be cz cA cB cC f0 f1 f2 f3 bE;go_wp2_with fail
   go_ret
   exact⟨rfl,λc=>(by cases c),λ_=>⟨a,Q,a6,m,n,aM,cd.out,bz.out.1,bz.out.2,b5.out,aQ.out,b3.out,b9.out,ca.out,rfl⟩⟩
theorem Lw(k h i:Int)(j:aq)(xa:ay)(l xc:Nat)(y0 y1:Int)(y2:aq)(ya:ay)(yl yc:Nat)(nm:aq)(g:Int)(c:Nat)(w:ah)(R:Bool->bF)(D:c<w.heap.size)(B:Hid (∃A,ai w c 6 (.bool A)/\w.frozen? ⟨c,6,none⟩=false))(m:Hid (k=1->∀W,ap w W->au 228 #[aE c,.agg #[ae k,ae h,ae i,af j,ag xa l xc,ae y0,ae y1,af y2,ag ya yl yc,af nm,ae g]] W λe w'=>∃t,e=aw (.bool t)/\Hid (R t w')))(n:Hid (k=2->∀W,ap w W->au 229 #[aE c,.agg #[ae k,ae h,ae i,af j,ag xa l xc,ae y0,ae y1,af y2,ag ya yl yc,af nm,ae g]] W λe w'=>∃t,e=aw (.bool t)/\Hid (R t w')))(o:Hid (k=3->∀W,ap w W->au 230 #[aE c,.agg #[ae k,ae h,ae i,af j,ag xa l xc,ae y0,ae y1,af y2,ag ya yl yc,af nm,ae g]] W λe w'=>∃t,e=aw (.bool t)/\Hid (R t w')))(q:Hid (k≠1->k≠2->k≠3->∀W,ap w W->R true (W.setCell ⟨c,6,none⟩ (.bool true)))):au 204 #[aE c,.agg #[ae k,ae h,ae i,af j,ag xa l xc,ae y0,ae y1,af y2,ag ya yl yc,af nm,ae g]] w λe w'=>∃t,e=aw (.bool t)/\Hid (R t w'):=by
 have C:Hid (∃a b,(a=w.alloc (.cells #[ae k,ae h,ae i,af j,ag xa l xc,ae y0,ae y1,af y2,ag ya yl yc,af nm,ae g] 268)/\b=w.heap.size)/\ap w a/\(ai a b 0 (ae k)/\ai a b 1 (ae h)/\ai a b 2 (ae i)/\ai a b 3 (af j)/\ai a b 4 (ag xa l xc)/\ai a b 5 (ae y0)/\ai a b 6 (ae y1)/\ai a b 7 (af y2)/\ai a b 8 (ag ya yl yc)/\ai a b 9 (af nm)/\ai a b 10 (ae g))):=by
  have d:=aK w (.cells #[ae k,ae h,ae i,af j,ag xa l xc,ae y0,ae y1,af y2,ag ya yl yc,af nm,ae g] 268);exact⟨_,_,⟨rfl,rfl⟩,aV _ _,aj d 0,aj d 1,aj d 2,aj d 3,aj d 4,aj d 5,aj d 6,aj d 7,aj d 8,aj d 9,aj d 10⟩
 go_enter func204,ntmps204;obtain⟨A,F,z⟩:=B.out;go_upto_region 1 with fail;obtain⟨a,b,⟨G,E⟩,y,M,N,P,Q,S,T,U,V,X,Y,O⟩:=C.out;rw[<-G,<-E];have s:=av y;have I:Hid (ai a c 6 (.bool A)/\a.frozen? ⟨c,6,none⟩=false):=by
  refine⟨(y.cell (p:=⟨c,6,none⟩) D).trans F,?_⟩;unfold World.frozen? at z ⊢;rw[y.block c D];exact z
 clear G E y C F z B;by_cases u:k=1
 ·have r:=av (m u a s);clear m n o q;subst u;go_wp2_with fail;refine r.mono ?_;rintro e H ⟨t,rfl,f⟩;go_wp2_with fail
  go_ret
  exact⟨t,rfl,f⟩
 ·by_cases v:k=2
  ·have r:=av (n v a s);clear m n o q;subst v;go_wp2_with fail;refine r.mono ?_;rintro e H ⟨t,rfl,f⟩;go_wp2_with fail
   go_ret
   exact⟨t,rfl,f⟩
  ·by_cases x:k=3
   ·have r:=av (o x a s);clear m n o q;subst x;go_wp2_with fail;refine r.mono ?_;rintro e H ⟨t,rfl,f⟩;go_wp2_with fail
    go_ret
    exact⟨t,rfl,f⟩
   ·have f:=av (q u v x a s);obtain⟨Z,aa⟩:=I;have J:¬(1:Int)=k:=λe=>u e.symm;have K:¬(2:Int)=k:=λe=>v e.symm;have L:¬(3:Int)=k:=λe=>x e.symm;clear m n o q;go_wp2_with fail
    go_ret
    exact⟨true,rfl,f⟩
def PH{n:Nat}(a:Ac (n+1)):az:=.agg #[ae a.1,ae a.2.1.1.1.1,ae a.2.1.1.1.2.1,af a.2.1.1.1.2.2,ag a.2.1.1.2.1.1 a.2.1.1.2.2.length a.2.1.1.2.1.2,ae a.2.1.2.1.1,ae a.2.1.2.1.2.1,af a.2.1.2.1.2.2,ag a.2.1.2.2.1.1 a.2.1.2.2.2.length a.2.1.2.2.1.2,af a.2.2.1,ae a.2.2.2]
theorem J9(l:List (Ac (n+1)))(s:ay)(L C r:Nat)(w:ah)(S:Nat->bF)(k:bF)(D:L<=1000000)(z:Hid (l.length=L))(x:Hid (∀(i:Nat)(a:Ac (n+1)) W,l[i]?=some a->S i W->∃b o,s=some ⟨b,o,none⟩/\∀(j:Nat)(u:az),(gY (n+1) a)[j]?=some u->ai W b (o+i*11+j) u))(HB:Hid (∀i W q,S i W->ap W q->S i q))(A:Hid (∀(i:Nat)(a:Ac (n+1)) W,l[i]?=some a->S i W->au 204 #[aE r,PH a] W λe w'=>∃t,e=aw (.bool t)/\Hid ((t=true->S (i+1) w')/\(t=false->k w'))))(v:Hid (S 0 w)):au 178 #[aE r,ag s L C] w λe w'=>∃t,e=aw (.bool t)/\Hid ((t=true->S L w')/\(t=false->k w')):=by
 go_enter func178,ntmps178;go_wp2_with fail;go_loopw [9] (λi wr=>∃j:Nat,j<=L/\i=ae j/\Hid (S j wr)) (λi _=>L-(intOf i).toNat)
 case atStart=>exact⟨0,aM _,rfl,v⟩
 case round=>
  obtain⟨j,E,rfl,g⟩:=hrel;by_cases B:j<L
  ·obtain⟨a,h⟩:∃a,l[j]?=some a:=⟨l[j]'(by rw[z.out];exact B),aU _⟩;obtain⟨b,o,rfl,c⟩:=x j a wr h g;have I:ai wr b (o+j*11) (ae a.1):=c 0 _ rfl;have J:=c 1 _ rfl;have M:=c 2 _ rfl;have N:=c 3 _ rfl;have O:=c 4 _ rfl;have P:=c 5 _ rfl;have Q:=c 6 _ rfl;have R:=c 7 _ rfl;have T:=c 8 _ rfl;have U:=c 9 _ rfl;have K:=c 10 _ rfl;have F:(0:Int)<=(j:Int):=by omega
   have G:(j:Int)<(L:Int):=by omega
   have m:=av λW (d:ap wr W)=>A j a W h (HB _ _ _ g d);unfold PH at m;have y:Hid (∀o:Obj,ap wr (wr.alloc o)):=λo=>aV _ o;clear c h;go_wp2_with fail;refine(m _ (y _)).mono ?_;rintro e H ⟨t,rfl,p⟩;cases t
   ·have f:=av (p.2 rfl);go_wp2_with fail
    go_ret
    exact⟨false,rfl,λd=>(by cases d),λ_=>f.out⟩
   ·have f:=av (p.1 rfl);go_wp2_with fail;go_roundw
    case rel=>exact⟨j+1,by omega,by go_num,f⟩
    case measure=>simp[intOf];omega
  ·obtain rfl:j=L:=by omega
   go_wp2_with fail
   go_ret
   exact⟨true,rfl,λ_=>g,λd=>(by cases d)⟩
theorem Ce(N:Nat)(s0 s1:Int)(X:aq)(sa:ay)(sl sc:Nat)(P Q:Int)(R:aq)(ma:ay)(U T:Nat)(l:ay)(m ac:Nat)(o p:Int)(r:aq)(s:ay)(nl u:Nat)(V n:Nat)(w:ah)(S:bF)(A:Bool->Tm (N+1)->bF)(c:Int->bF)(E:Hid (∀W,ap w W->au 178 #[aE n,ag l m ac] W λe w'=>∃t,e=aw (.bool t)/\Hid ((∀q a,w.heap.size<=q->W.heap[q]?=some a->w'.heap[q]?=some a)/\(t=true->S w')/\(t=false->c 2 w'))))(G:Hid (∀W,S W->au 179 #[aE n,.agg #[ae o,ae p,af r,ag s nl u]] W λe w'=>∃(y:Tm (N+1))(t:Bool),e=aw (ax #[.agg #[ae y.1.1,ae y.1.2.1,af y.1.2.2,ag y.2.1.1 y.2.2.length y.2.1.2],.bool t])/\Hid (A t y w')))(F:Hid (∀y d g,A false y d->ap d g->c 2 g))(HB:Hid (∀y d g,A true y d->ap d g->au 180 #[aE V,.agg #[ae y.1.1,ae y.1.2.1,af y.1.2.2,ag y.2.1.1 y.2.2.length y.2.1.2]] g λe w'=>∃t,e=aw (.bool t)/\Hid ((t=false->c 3 w')/\(t=true->∃i,ai w' n 6 (.bool i)/\(i=true->c 1 w')/\(i=false->c 0 w'))))):au 156 #[aE V,.agg #[ae s0,ae s1,af X,ag sa sl sc,ae P,ae Q,af R,ag ma U T,ag l m ac,ae o,ae p,af r,ag s nl u],aE n] w λe w'=>∃f,e=aw (ae f)/\c f w':=by
 have H:Hid (∃v q a,(v=w.alloc a/\q=w.heap.size/\a=.cells #[ae s0,ae s1,af X,ag sa sl sc,ae P,ae Q,af R,ag ma U T,ag l m ac,ae o,ae p,af r,ag s nl u] 229)/\ap w v/\v.heap[q]?=some a/\w.heap.size<=q/\∀W:ah,W.heap[q]?=some a->ai W q 8 (ag l m ac)/\ai W q 9 (ae o)/\ai W q 10 (ae p)/\ai W q 11 (af r)/\ai W q 12 (ag s nl u)):=
  ⟨_,_,_,⟨rfl,rfl,rfl⟩,aV _ _,aK _ _,aA _,λW h=>⟨aj h 8,aj h 9,aj h 10,aj h 11,aj h 12⟩⟩
 go_enter func156,ntmps156;go_wp2_with fail;obtain⟨v,q,a,⟨D,L,K⟩,I,M,O,J⟩:=H.out;rw[K]at D;rw[<-D];have Y:=av I;have aa:=av J;have ab:=av M;have ad:=av O;rw[<-L];clear D L K I J M O H;refine(E _ Y).mono ?_;rintro e al ⟨t,rfl,j⟩;obtain⟨ar,az,am,an,ao⟩:=aa al (j.1 q a ad ab);cases t
 ·have b:=av (j.2.2 rfl);go_wp2_with fail
  go_ret
  exact⟨2,rfl,b⟩
 ·have ak:=av (j.2.1 rfl);clear j E;go_wp2_with fail;refine(G _ ak).mono ?_;rintro e x ⟨y,t,rfl,z⟩;cases t
  ·have b:=av λa=>F y x (x.alloc a) z (aV _ a);go_wp2_with fail
   go_ret
   exact⟨2,rfl,b _⟩
  ·have Z:=av λa=>HB y x (x.alloc a) z (aV _ a);clear z G F HB;go_wp2_with fail;refine(Z _).mono ?_;rintro e aC ⟨t,rfl,k⟩;cases t
   ·have b:=av (k.1 rfl);go_wp2_with fail
    go_ret
    exact⟨3,rfl,b⟩
   ·obtain⟨i,aB,C,B⟩:=k.out.2 rfl;cases i
    ·have b:=av (B rfl);clear C B k;go_wp2_with fail
     go_ret
     exact⟨0,rfl,b⟩
    ·have b:=av (C rfl);clear C B k;go_wp2_with fail
     go_ret
     exact⟨1,rfl,b⟩
structure cQ where
 b:Nat
 o:Nat
 pre:List Value
 post:List Value
 t:TypeId
def cQ.own(b:Nat):cQ:=⟨b,0,[],[],193⟩
def HB(a:cQ)(room:Int)(tv lv mv:Value)(w:World):Prop:=(a.pre.length=a.o/\(a.t=193\/a.t=195))/\w.heap[a.b]?=some (.cells (a.pre++ .int .i64 room::tv::lv::mv::a.post).toArray a.t)
variable{d:cQ}
theorem HB.lt(a:HB d room tv lv mv w):d.b<w.heap.size:=(aR.1 a.2).1
theorem HB.cells(a:HB d room tv lv mv w):(w.cell? ⟨d.b,d.o,none⟩=some (.int .i64 room)/\w.cell? ⟨d.b,d.o+1,none⟩=some tv/\w.cell? ⟨d.b,d.o+2,none⟩=some lv/\w.cell? ⟨d.b,d.o+3,none⟩=some mv)/\∀j,w.frozen? ⟨d.b,j,none⟩=false:=by
 obtain⟨⟨c,_⟩,e⟩:=a;refine⟨⟨?_,?_,?_,?_⟩,λj=>?_⟩
 all_goals simp[World.cell?,World.frozen?,e,<-c]
theorem HB.ty(b:HB d room tv lv mv w):d.t≠9/\d.t≠184:=by
 rcases b.1.2 with a|a<;>rw[a]<;>decide
theorem Ez{l:List Value}{k:Nat}(a:d.pre.length=d.o)(b:l=(.int .i64 room::tv::lv::mv::d.post).set k v):(d.pre++ .int .i64 room::tv::lv::mv::d.post).set (d.o+k) v=d.pre++l:=by
 subst b;rw[<-a,List.set_append,if_neg (by omega),show d.pre.length+k-d.pre.length=k by omega]
theorem HB.set1(a:HB d room tv lv mv w)(v:Value):HB d room v lv mv (w.setCell ⟨d.b,d.o+1,none⟩ v):=by
 refine⟨a.1,?_⟩;have c:=Ez (k:=1) (room:=room) (tv:=tv) (lv:=lv) (mv:=mv) (v:=v) a.1.1 rfl;simp only[dI,dJ]at c;simp[World.setCell,bR,a.2,c]
theorem HB.set2(a:HB d room tv lv mv w)(v:Value):HB d room tv v mv (w.setCell ⟨d.b,d.o+2,none⟩ v):=by
 refine⟨a.1,?_⟩;have c:=Ez (k:=2) (room:=room) (tv:=tv) (lv:=lv) (mv:=mv) (v:=v) a.1.1 rfl;simp only[dI,dJ]at c;simp[World.setCell,bR,a.2,c]
theorem HB.set3(a:HB d room tv lv mv w)(v:Value):HB d room tv lv v (w.setCell ⟨d.b,d.o+3,none⟩ v):=by
 refine⟨a.1,?_⟩;have c:=Ez (k:=3) (room:=room) (tv:=tv) (lv:=lv) (mv:=mv) (v:=v) a.1.1 rfl;simp only[dI,dJ]at c;simp[World.setCell,bR,a.2,c]
theorem HB.kept{a:cQ}{room:Int}{tv lv mv:Value}{w w':World}(c:HB a room tv lv mv w)(k:w'.heap[a.b]?=w.heap[a.b]?):HB a room tv lv mv w':=⟨c.1,k.trans c.2⟩
structure cm (S:Nat->Prop) (w w':World):Prop where
 os:w'.os=w.os
 tape:w'.tape=w.tape
 output:w'.output=w.output
 size:w.heap.size<=w'.heap.size
 block:∀b,b<w.heap.size->¬S b->w'.heap[b]?=w.heap[b]?
theorem cm.refl(S:Nat->Prop)(w:World):cm S w w:=⟨rfl,rfl,rfl,aA _,λ_ _ _=>rfl⟩
theorem cm.trans{S T:Nat->Prop}{w w1 w2:World}(a:cm S w w1)(k:cm T w1 w2)(e:∀b,b<w.heap.size->T b->S b):cm S w w2:=
 ⟨k.os.trans a.os,k.tape.trans a.tape,k.output.trans a.output,aF a.size k.size,λb c d=>(k.block b (bf c a.size) (λf=>d (e b c f))).trans (a.block b c d)⟩
theorem cm.mono{T:Nat->Prop}(a:cm S w w1)(c:∀b,S b->T b):cm T w w1:=⟨a.os,a.tape,a.output,a.size,λb d e=>a.block b d λk=>e (c b k)⟩
theorem bB(a:Below w.heap.size w w')(S:Nat->Prop):cm S w w':=⟨a.os,a.tape,a.output,a.size,λb c _=>a.block b c⟩
theorem EH(a:w.grownBy w' row):cm (λb=>row=some b) w w':=⟨a.os,a.tape,a.output,a.size,λb c d=>a.block b c λe=>d e.symm⟩
theorem bI(w:World)(q o:Nat)(v:Value):cm (λb=>b=q) w (w.setCell ⟨q,o,none⟩ v):=
 ⟨rfl,rfl,rfl,by simp[World.setCell],λb _ c=>by
  have:¬q=b:=λa=>c a.symm
  simp[World.setCell,bR,this]⟩
def mapBlock:Value->Option Nat
 | .map (some b)=>some b
 | _=>none
theorem xi:Keyed Tryz.prog 9:=string_keyed underlying9
theorem sT(w:World):(zeroValue 3).run Tryz.prog w=.ok (.int .i64 0) w:=by kernel_rfl
def strCells(l:List ByteArray):List Value:=l.map .string
def sX(D:DataW Unit)(nm:List ByteArray):Prop:=∀s:ByteArray,(Maps.has D (.string s.data.toList)=true ↔ s∈nm)/\∀i:Nat,nm[i]?=some s->D.atKey (.string s.data.toList) (.lit (.int .i64 0))=.lit (.int .i64 i)
def kL(base:Nat)(nm:List ByteArray)(lv mv:Value)(w:World):Prop:=
 w.ownsRow base 9 1 lv nm.length (strCells nm)/\nm.Nodup/\
 ((mv=.map none/\nm=[]/\lv=.slice none 0 0)\/∃mb a,mv=.map (some mb)/\base<=mb/\w.ownsMap Tryz.prog 9 (plainElem Tryz.prog 3) mb nm.length a/\sX a nm/\lv.ownBlock≠some mb)
theorem kL.kept{base:Nat}{nm:List ByteArray}{lv mv:Value}{w w':World}{S:Nat->Prop}(m:kL base nm lv mv w)(k:cm S w w')(n:∀b,lv.ownBlock=some b->¬S b)(o:∀b,mapBlock mv=some b->¬S b):kL base nm lv mv w':=by
 obtain⟨g,v,f⟩:=m;have u:w'.ownsRow base 9 1 lv nm.length (strCells nm):=by
  refine⟨g.1,?_⟩;rcases g.2 with⟨c,l⟩|⟨d,cap,j,c,q,a,e⟩
  ·exact ak ⟨c,l⟩
  ·exact am ⟨d,cap,j,c,q,(k.block d (aR.1 a).1 (n d (by rw[c];rfl))).trans a,e⟩
 refine⟨u,v,?_⟩;rcases f with f|⟨mb,h,rfl,p,r,s,t⟩
 ·exact ak f
 ·refine am ⟨mb,h,rfl,p,?_,s,t⟩;obtain⟨es,i,a,e⟩:=r;exact⟨es,i,(k.block mb (aR.1 a).1 (o mb rfl)).trans a,e⟩
theorem EW(d:sX D nm){c:Int}(e:s∈nm)(a:D.atKey (.string s.data.toList) (.lit (.int .i64 0))=.lit (.int .i64 c)):∃i:Nat,nm[i]?=some s/\c=i:=by
 obtain⟨i,b⟩:=di e;have:=(d s).2 i b;rw[this]at a;simp at a;exact⟨i,b,a.symm⟩
theorem EU(a:cQ)(room:Int)(tv lv:Value)(mb:Nat)(D:DataW Unit)(nm:List ByteArray)(s:ByteArray)(w:World)(h:Hid (HB a room tv lv (.map (some mb)) w))(k:Hid (w.ownsMap Tryz.prog 9 (plainElem Tryz.prog 3) mb nm.length D))(d:Hid (sX D nm))(g:Hid (s∈nm))(v:s.size<=2048):Calls Tryz.prog 175 #[.pointer (some ⟨a.b,a.o+2,none⟩),.string s] w λe w'=>∃i:Nat,e=.returned (.int .i64 i)/\Hid (nm[i]?=some s)/\w'=w:=by
 have l:Maps.has D (.string s.data.toList)=true:=((d s).1).2 g;obtain⟨⟨p,q,r,t⟩,u⟩:=h.cells;go_enter func175,ntmps175;go_wp2_with (at_lookup;refine wpList_lookup_own_ok_int _ rfl _ _ 189 rfl 9 3 .i64 xi underlying189 underlying3 (sT _) mb nm.length D rfl k _ _ rfl (nF underlying9 (by unfold maxLen;omega)) ?_;intro c f n;have j:=av (EW d g f);clear f n;rw[l]);obtain⟨i,m,rfl⟩:=j
 go_ret
 exact⟨i,rfl,m,rfl⟩
def rR(base:Nat)(d:cQ)(room:Int)(tv lv mv:Value)(nm:List ByteArray)(s:ByteArray)(w w':World)(a c:Value):Prop:=
 HB d room tv a c w'/\kL base (nm++ [s]) a c w'/\cm (λb=>b=d.b\/lv.ownBlock=some b\/mapBlock mv=some b) w w'/\
 (∀b,a.ownBlock=some b->lv.ownBlock=some b\/w.heap.size<=b)/\∀b,mapBlock c=some b->mapBlock mv=some b\/w.heap.size<=b
theorem lT:(Tryz.prog.info? 9).map (λi=>(i.zero,i.size,i.bytes))=some (some (.string .empty),1,16):=by kernel_rfl
theorem Gx(l:List UInt8):WideAt.IsKeyLit (.string l):=by first|trivial|simp[WideAt.IsKeyLit]|decide
theorem CI{o:Obj}(l:HB d room tv lv (.map (some u)) w)(Q:base<=u)(R:nm.Nodup)(A:sX D nm)(E:s∉nm)(ad:s.size<=maxLen)(O:lv.ownBlock≠some u)(C:w.ownsRow base 9 1 lv nm.length (strCells nm))(q:w.ownsMap Tryz.prog 9 (plainElem Tryz.prog 3) u nm.length D)(m:Below w.heap.size w w1)(S:w2.ownsRow base 9 1 (.slice (some ⟨g,0,none⟩) (nm.length+1) c) (nm.length+1) (strCells nm++ [.string s]))(n:(w1.alloc o).grownBy w2 lv.ownBlock)(v:lv.ownBlock=some g\/g=w1.heap.size+1)(P:w4.ownsMap Tryz.prog 9 (plainElem Tryz.prog 3) u (nm.length+1) (D.put (.string s.data.toList) (.lit (.int .i64 nm.length))))(j:(w2.setCell ⟨d.b,d.o+2,none⟩ (.slice (some ⟨g,0,none⟩) (nm.length+1) c)).grownBy w4 (some u)):rR base d room tv lv (.map (some u)) nm s w w4 (.slice (some ⟨g,0,none⟩) (nm.length+1) c) (.map (some u)):=by
 have M:=l.lt;have aa:=q.lt;have ab:=m.size;have es:(w1.alloc o).heap.size=w1.heap.size+1:=by simp
 have Z:=n.size;have T:d.b≠u:=by
  rintro rfl;obtain⟨es,W,x,_⟩:=q;have e:w.heap[d.b]?=_:=l.2;rw[x]at e;cases e
 have B:lv.ownBlock≠some d.b:=λa=>by
  rcases C.2 with⟨rfl,_⟩|⟨Y,cap,X,rfl,_,x,_⟩
  ·simp[Value.ownBlock]at a
  ·simp[Value.ownBlock]at a;subst a;have e:w.heap[d.b]?=_:=l.2;rw[x]at e;injection e with e;injection e with e G;exact l.ty.1 G.symm
 have p:∀b,lv.ownBlock=some b->b<w.heap.size:=λb a=>(C.lt b a).2;have L:g≠d.b:=by
  rintro rfl;rcases v with a|a
  ·exact B a
  ·omega
 have z:g≠u:=by
  rintro rfl;rcases v with a|a
  ·exact O a
  ·omega
 have e:∀b,b<w.heap.size->lv.ownBlock≠some b->w2.heap[b]?=w.heap[b]? :=λb i f=>((n.block b (by omega) (λa=>f a.symm)).trans ((dB w1 o none).block b (by omega) (by simp))).trans (m.block b i);have y:=bI w2 d.b (d.o+2) (.slice (some ⟨g,0,none⟩) (nm.length+1) c);have U:=y.size;have ae:=j.size;have H:HB d room tv lv (.map (some u)) w2:=l.kept (e d.b M B);have I:=H.set2 (.slice (some ⟨g,0,none⟩) (nm.length+1) c);have J:HB d room tv (.slice (some ⟨g,0,none⟩) (nm.length+1) c) (.map (some u)) w4:=I.kept (j.block d.b (by omega) (λa=>T (aI a)));refine⟨J,⟨?_,?_,am ⟨u,_,rfl,Q,by simpa using P,?_,?_⟩⟩,⟨?_,?_,?_,?_,?_⟩,?_,?_⟩
 ·have a:strCells (nm++ [s])=strCells nm++ [.string s]:=by simp[strCells]
  rw[a,bq];have N:w2.grownBy (w2.setCell ⟨d.b,d.o+2,none⟩ (.slice (some ⟨g,0,none⟩) (nm.length+1) c)) (some d.b):=⟨rfl,rfl,rfl,U,λb i f=>y.block b i (λa=>f (by rw[a]))⟩;refine qn (qn S N (am ?_)) j (am ?_)
  ·simp only[Value.ownBlock];exact λa=>L (aI a)
  ·simp only[Value.ownBlock];exact λa=>z (aI a)
 ·rw[fL];refine⟨R,by simp,λV K b i=>?_⟩;simp at i;subst i;exact λa=>E (a▸K)
 ·intro t;by_cases r:t=s
  ·subst r;refine⟨?_,λk h=>?_⟩
   ·rw[has_put_same q.isMap (Gx _)];simp
   ·rw[atKey_put_same q.isMap (Gx _)];have:k=nm.length:=by
     by_cases p:k<nm.length
     ·rw[dN p]at h;exact absurd (aT h) E
     ·have:=(bi.1 h).1;simp at this;omega
    rw[this]
  ·have f:(Lit.string t.data.toList)≠(Lit.string s.data.toList):=λa=>r (by
     injection a with a;cases t;cases s;simp only at a
     rw[Array.toList_inj.1 a])
   refine⟨?_,λk h=>?_⟩
   ·rw[has_put_other f,(A t).1];simp[r]
   ·rw[atKey_put_other f];refine(A t).2 k ?_;by_cases p:k<nm.length
    ·rw[dN p]at h;exact h
    ·have F:=(bi.1 h).1;simp at F;have:k=nm.length:=by omega
     subst this;simp at h;exact absurd h.symm r
 ·simp only[Value.ownBlock];exact λa=>z (aI a)
 ·exact(j.os.trans n.os).trans m.os
 ·exact(j.tape.trans n.tape).trans m.tape
 ·exact(j.output.trans n.output).trans m.output
 ·omega
 ·intro b i f;simp only[mapBlock,not_or]at f;exact(j.block b (by omega) (λa=>f.2.2 a.symm)).trans ((y.block b (by omega) f.1).trans (e b i f.2.1))
 ·intro b a;simp only[Value.ownBlock]at a;obtain rfl:=aI a;rcases v with a|a
  ·exact ak a
  ·exact am (by omega)
 ·exact λb a=>ak a
theorem lZ(w:World)(s:ByteArray):∀j b,[Value.string s][j]?=some b->(w.alloc (.cells #[.string s] 9)).cell? ((⟨w.heap.size,0,none⟩:Addr).add j)=some b:=by
 intro j b a;rw[fE];cases j with
 | zero=>simp at a;subst a;simp[go_sem]
 | succ j=>simp at a
theorem CH{nm:List Value}(h:w.ownsRow base 9 1 lv n nm)(c:HB d room tv o mv w):lv.ownBlock≠some d.b:=λe=>by
 rcases h.2 with⟨rfl,_⟩|⟨j,cap,i,rfl,_,g,_⟩
 ·simp[Value.ownBlock]at e
 ·simp[Value.ownBlock]at e;subst e;have a:w.heap[d.b]?=_:=c.2;rw[g]at a;injection a with a;injection a with a f;exact c.ty.1 f.symm
theorem um{o:Obj}(i:d.b<w1.heap.size)(k:lv.ownBlock≠some d.b)(h:(w1.alloc o).grownBy w2 lv.ownBlock)(g:∀j,w1.frozen? ⟨d.b,j,none⟩=false)(f:w1.cell? ⟨d.b,d.o+2,none⟩=some v):w2.cell? ⟨d.b,d.o+2,none⟩=some v/\w2.frozen? ⟨d.b,d.o+2,none⟩=false:=by
 have c:w2.heap[d.b]?=w1.heap[d.b]? :=(h.block d.b (by simp;omega) (λe=>k e.symm)).trans ((dB w1 o none).block d.b i (by simp));exact⟨(bM c _).trans f,(jG (a:=⟨d.b,d.o+2,none⟩) c).trans (g _)⟩
theorem ul{o:Obj}(g:d.b<w1.heap.size)(h:lv.ownBlock≠some d.b)(f:(w1.alloc o).grownBy w2 lv.ownBlock)(e:w1.cell? ⟨d.b,d.o+3,none⟩=some v):w2.cell? ⟨d.b,d.o+3,none⟩=some v:=by
 have c:w2.heap[d.b]?=w1.heap[d.b]? :=(f.block d.b (by simp;omega) (λa=>h a.symm)).trans ((dB w1 o none).block d.b g (by simp));exact(bM c _).trans e
theorem yE{L:Nat}{o:Obj}(g:w1.ownsMap Tryz.prog 9 (plainElem Tryz.prog 3) u L D)(h:d.b≠u)(f:lv.ownBlock≠some u)(e:(w1.alloc o).grownBy w2 lv.ownBlock)(v:Value):(w2.setCell ⟨d.b,d.o+2,none⟩ v).ownsMap Tryz.prog 9 (plainElem Tryz.prog 3) u L D:=
 (((g.alloc o).kept e (λc=>f c.symm))).setCell (a:=⟨d.b,d.o+2,none⟩) (λc=>h c.symm) v
theorem ET(base:Nat)(a:cQ)(room:Int)(tv lv:Value)(M:Option Addr)(N L:Nat)(mb:Nat)(D:DataW Unit)(nm:List ByteArray)(s:ByteArray)(w:World)(ad:lv=.slice M L N)(O:Hid (nm.length=L))(ao:L<=100000)(d:Hid (HB a room tv lv (.map (some mb)) w))(ae:Hid (base<=mb))(ap:base<=w.heap.size)(af:Hid (nm.Nodup))(j:Hid (w.ownsMap Tryz.prog 9 (plainElem Tryz.prog 3) mb L D))(t:Hid (sX D nm))(G:Hid (s∉nm))(ag:s.size<=2048)(B:Hid (lv.ownBlock≠some mb))(p:Hid (w.ownsRow base 9 1 lv L (strCells nm))):Calls Tryz.prog 175 #[.pointer (some ⟨a.b,a.o+2,none⟩),.string s] w λe w'=>e=.returned (.int .i64 L)/\∃aj ak,Hid (rR base a room tv lv (.map (some mb)) nm s w w' aj ak):=by
 subst ad;have aa:Maps.has D (.string s.data.toList)=false:=by
  cases h:Maps.has D (.string s.data.toList)
  ·rfl
  ·exact absurd (((t s).1).1 h) G
 obtain⟨ai,hit,H,I,J⟩:=bS lT;have k:=av (⟨hit,H,I,J⟩:_/\_/\_/\_);clear hit H I J;obtain⟨⟨S,T,q,U⟩,X⟩:=d.out.cells;have aq:∀(w:World)(l:Option Nat),(binOp .eql 189 (.map l) (.map none)).run Tryz.prog w=.ok (.bool l.isNone) w:=λw l=>run_eql_map_nil w _ _ _ l underlying189;go_enter func175,ntmps175;go_wp2_with (at_lookup;refine wpList_lookup_own_ok_int _ rfl _ _ 189 rfl 9 3 .i64 xi underlying189 underlying3 (sT _) mb L D rfl j _ _ rfl (nF underlying9 (by unfold maxLen;omega)) ?_;intro c W ah;clear W ah;rw[aa]);refine(eu s _ ag).mono ?_;rintro e i ⟨rfl,f⟩;have z:a.b<w.heap.size:=d.lt;have n:=av f;obtain⟨⟨d0,d1,d2,d3⟩,Y⟩:=(d.kept (f.block a.b z)).cells;have A:a.b<i.heap.size:=bf z f.size;have R:Hid (a.b≠mb):=by
  rintro rfl;obtain⟨es,al,Z,_⟩:=j.out;have v:w.heap[a.b]?=_:=d.2;rw[Z]at v;cases v
 have u:Hid ((Value.slice M L N).ownBlock≠some a.b):=CH p d;have P:Hid (i.ownsMap Tryz.prog 9 (plainElem Tryz.prog 3) mb L D):=j.kept (dl f none) (by simp);clear f S T q U X
 go_wp2_with (first
  | (at_builtin;refine wpList_append_lies _ rfl _ _ 23 rfl base 9 ai _ 1 16 underlying23 k.1 k.2.1 k.2.2.1 k.2.2.2 rfl (by decide) _ L _ rfl ((dU p n).alloc _) ⟨i.heap.size,0,none⟩ 1 1 [.string s] rfl rfl (lZ i s) (by intro ar K;simp at K;subst K;rfl) (by decide) (by unfold maxLen;omega) (by omega) (by have:=n.size;simp;omega) (i.heap.size+1) (by simp) ?_;intro V q au E g x C;have m:=av (⟨E,g,x,C⟩:_/\_/\_/\_);obtain⟨am,f2⟩:=um A u g Y d2;have an:=ul A u g d3;have Q:=av (yE P R B g (.slice (some ⟨V,0,none⟩) (L+1) q));clear E g x C)
  | (at_mapUpdate;refine wpList_mapUpdate_own _ rfl _ _ _ 189 rfl 9 3 xi underlying189 (plainElem Tryz.prog 3) mb L D rfl Q (by unfold maxLen;omega) _ _ _ rfl rfl (nF underlying9 (by unfold maxLen;omega)) (.lit (.int .i64 L)) [] (plainElem_int underlying3 (iO (by omega))) ?_;intro aw F y;have r:=av (⟨F,y⟩:_/\_);clear F y))
 go_ret
 have ab:=O.out;subst ab;exact⟨rfl,_,_,CI d ae af t G (by unfold maxLen;omega) B p j n m.1 m.2.1 m.2.2.1 r.1 r.2⟩
theorem Er{e:Value}{wA:World}(f:rR base d room tv lv (.map (some w.heap.size)) [] s wA w4 o e)(k:cm (λb=>b=d.b) w wA)(n:wA.heap.size=w.heap.size+1):rR base d room tv lv (.map none) [] s w w4 o e:=by
 obtain⟨g,h,i,j,l⟩:=f;refine⟨g,h,?_,?_,?_⟩
 ·refine(k.mono λb c=>ak c).trans i λb c m=>?_;rcases m with a|a|a
  ·exact ak a
  ·exact am (ak a)
  ·simp only[mapBlock]at a;have:=aI a;omega
 ·intro b a;rcases j b a with a|a
  ·exact ak a
  ·exact am (by omega)
 ·intro b a;rcases l b a with a|a
  ·simp only[mapBlock]at a;have:=aI a;exact am (by omega)
  ·exact am (by omega)
theorem Lt:sX (.map []) []:=λs=>⟨by simp[Maps.has],λi a=>by simp at a⟩
theorem AC(base:Nat)(a:cQ)(room:Int)(tv lv:Value)(s:ByteArray)(w:World)(U:lv=.slice none 0 0)(k:Hid (HB a room tv lv (.map none) w))(P:base<=w.heap.size)(Y:s.size<=2048):Calls Tryz.prog 175 #[.pointer (some ⟨a.b,a.o+2,none⟩),.string s] w λe w'=>e=.returned (.int .i64 0)/\∃aa ab,Hid (rR base a room tv lv (.map none) [] s w w' aa ab):=by
 subst U;obtain⟨Z,hit,A,B,C⟩:=bS lT;have h:=av (⟨hit,A,B,C⟩:_/\_/\_/\_);clear hit A B C;obtain⟨⟨L,M,l,N⟩,Q⟩:=k.out.cells;have S:a.b<w.heap.size:=k.lt;have ah:∀(w:World)(i:Option Nat),(binOp .eql 189 (.map i) (.map none)).run Tryz.prog w=.ok (.bool i.isNone) w:=λw i=>run_eql_map_nil w _ _ _ i underlying189;have T:(Instr.lookup 189 (.map none) (.string s) true).run Tryz.prog w=.ok (.tuple #[.int .i64 0,.bool false]) w:=by
  simpa using Maps.look_nil (w:=w) true xi underlying189 (sT _) (nF underlying9 (show s.size<=maxLen by unfold maxLen;omega))
 have V:= @run_makeMap Tryz.prog;go_enter func175,ntmps175;go_wp2_with fail;generalize E:(w.setCell ⟨a.b,a.o+3,none⟩ (.map (some w.heap.size))).alloc (.map #[] 0)=wA;have c:Hid (HB a room tv (.slice none 0 0) (.map (some w.heap.size)) wA/\wA.ownsMap Tryz.prog 9 (plainElem (H:=Unit) Tryz.prog 3) w.heap.size 0 (.map [])/\cm (λb=>b=a.b) w wA/\wA.heap.size=w.heap.size+1):=by
  subst E;have es:(w.setCell ⟨a.b,a.o+3,none⟩ (.map (some w.heap.size))).heap.size=w.heap.size:=by simp[World.setCell]
  have x:=qm (w.setCell ⟨a.b,a.o+3,none⟩ (.map (some w.heap.size))) Tryz.prog 9 (plainElem (H:=Unit) Tryz.prog 3);rw[es]at x;refine⟨(k.set3 (.map (some w.heap.size))).kept ((dB _ _ none).block a.b (by rw[es];exact S) (by simp)),x,⟨rfl,rfl,rfl,by simp[World.setCell],λb q W=>?_⟩,by simp[World.setCell]⟩;exact((dB _ _ none).block b (by rw[es];exact q) (by simp)).trans ((bI w a.b (a.o+3) (.map (some w.heap.size))).block b q W)
 clear E L M l N Q T V;refine(eu s _ Y).mono ?_;rintro e f ⟨rfl,d⟩;have u:a.b<wA.heap.size:=c.1.lt;have F:=av d;obtain⟨⟨d0,d1,d2,d3⟩,R⟩:=(c.1.kept (d.block a.b u)).cells;have t:a.b<f.heap.size:=bf u d.size;have K:Hid (a.b≠w.heap.size):=by unfold Hid;omega
 have n:Hid ((Value.slice none 0 0).ownBlock≠some a.b):=by simp[Hid,Value.ownBlock]
 have I:Hid (f.ownsMap Tryz.prog 9 (plainElem (H:=Unit) Tryz.prog 3) w.heap.size 0 (.map [])):=c.2.1.kept (dl d none) (by simp);have G:Hid (base<=f.heap.size):=by have af:=c.2.2.2;have ag:=d.size;unfold Hid;omega
 clear d
 go_wp2_with (first
  | (at_builtin;refine wpList_append_lies _ rfl _ _ 23 rfl base 9 Z _ 1 16 underlying23 h.1 h.2.1 h.2.2.1 h.2.2.2 rfl (by decide) _ 0 [] rfl (eW _ _ _ _) ⟨f.heap.size,0,none⟩ 1 1 [.string s] rfl rfl (lZ f s) (by intro ai D;simp at D;subst D;rfl) (by decide) (by unfold maxLen;omega) (by omega) (by have:=G.out;simp;omega) (f.heap.size+1) (by simp) ?_;intro O l aj y g p v;have j:=av (⟨y,g,p,v⟩:_/\_/\_/\_);obtain⟨ad,f2⟩:=um t n g R d2;have ae:=ul t n g d3;have J:=av (yE (lv:=.slice none 0 0) I K (by simp[Value.ownBlock]) g (.slice (some ⟨O,0,none⟩) (0+1) l));clear y g p v)
  | (at_mapUpdate;refine wpList_mapUpdate_own _ rfl _ _ _ 189 rfl 9 3 xi underlying189 (plainElem Tryz.prog 3) w.heap.size 0 (.map []) rfl J (by unfold maxLen;omega) _ _ _ rfl rfl (nF underlying9 (by unfold maxLen;omega)) (.lit (.int .i64 0)) [] (plainElem_int underlying3 (iO (by omega))) ?_;intro ak z r;have m:=av (⟨z,r⟩:_/\_);clear z r))
 go_ret
 have X:=CI (nm:=[]) c.1 P (by simp) Lt (by simp) (show s.size<=maxLen by unfold maxLen;omega) (by simp[Value.ownBlock]) (eW _ _ _ _) c.2.1 F j.1 j.2.1 j.2.2.1 m.1 m.2;exact⟨rfl,_,_,Er X c.2.2.1 c.2.2.2⟩
theorem ES(base:Nat)(a:cQ)(room:Int)(tv lv mv:Value)(nm:List ByteArray)(s:ByteArray)(w:World)(g:HB a room tv lv mv w)(I:kL base nm lv mv w)(B:base<=w.heap.size)(H:nm.length<=100000)(q:s.size<=2048):Calls Tryz.prog 175 #[.pointer (some ⟨a.b,a.o+2,none⟩),.string s] w λe w'=>∃i:Nat,e=.returned (.int .i64 i)/\∃h d f,Hid (h[i]?=some s/\(h=nm\/h=nm++ [s])/\HB a room tv d f w'/\kL base h d f w'/\cm (λb=>b=a.b\/lv.ownBlock=some b\/mapBlock mv=some b) w w'/\ (∀b,d.ownBlock=some b->lv.ownBlock=some b\/w.heap.size<=b)/\∀b,mapBlock f=some b->mapBlock mv=some b\/w.heap.size<=b):=by
 obtain⟨l,A,G⟩:=I;rcases G with⟨rfl,rfl,m⟩|⟨mb,j,rfl,D,n,p,C⟩
 ·refine(AC base a room tv lv s w m g B q).mono ?_;rintro e w' ⟨rfl,d,f,k⟩;obtain⟨r,t,u,v,x⟩:=k.out;exact⟨0,rfl,[s],d,f,rfl,am rfl,r,t,u,v,x⟩
 ·by_cases E:s∈nm
  ·refine(EU a room tv lv mb j nm s w g n p E q).mono ?_;rintro e w' ⟨i,rfl,J,rfl⟩;exact⟨i,rfl,nm,lv,.map (some mb),J,ak rfl,g,⟨l,A,am ⟨mb,j,rfl,D,n,p,C⟩⟩,cm.refl _ _,λb e=>ak e,λb e=>ak e⟩
  ·obtain⟨y,z,m⟩:∃y z,lv=.slice y nm.length z:=by
     rcases l.2 with⟨e,F⟩|⟨L,c,K,e,_⟩
     ·exact⟨none,0,by rw[e,F]⟩
     ·exact⟨_,c,e⟩
   refine(ET base a room tv lv y z nm.length mb j nm s w m rfl H g D B A n p E q C l).mono ?_;rintro e w' ⟨rfl,d,f,k⟩;obtain⟨r,t,u,v,x⟩:=k;exact⟨nm.length,rfl,nm++ [s],d,f,by simp,am rfl,r,t,u,v,x⟩
end Go.Proofs.YthjclakhibnamaaGreatDoor
