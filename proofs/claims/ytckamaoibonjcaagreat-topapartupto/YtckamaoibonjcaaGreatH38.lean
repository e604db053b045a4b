/- What is proved here: plain facts and contracts that the claimed theorem stands on. No condition but those that each names. -/
import Derived.Test.YtckamaoibonjcaaGreatH37
import Derived.Deep.DeepCutAuto
namespace Go.Proofs.YtckamaoibonjcaaGreat
open Go.RowKit
set_option maxHeartbeats 4000000
set_option maxRecDepth 100000
theorem dA{g d:Type}{f:g->d->Bool}{p:List g}{b:d}{q:List d}(c:ay f p (b::q)=true):∃a e,p=a::e/\f a b=true/\ay f e q=true:=by
 cases p with
 | nil=>simp[ay]at c
 | cons a p=>
  simp only[ay,aB]at c;exact⟨a,p,rfl,c.1,c.2⟩
theorem lQ{a b:Type}{f:a->b->Bool}{p:List a}(c:ay f p ([]:List b)=true):p=[]:=by
 cases p with
 | nil=>rfl
 | cons d p=>simp[ay]at c
theorem Jt{n m:Nat}{x:Tm n}{y:Tm (m+1)}(a:aw n x (m+1) y=true):(fX n x).1=y.1:=(Ev a).1
theorem mU{N n:Nat}{x:Tm (N+1)}{c:ByteArray}{ys:List (Tm (n+1))}(k:aw (N+1) x (n+2) (cU (n+1) (aW c n::ys))=true):eP N x=c/\ay (λa b=>aw N a (n+1) b) (bI N x) ys=true:=by
 obtain⟨l,m⟩:=bA k;obtain⟨a,q,g,h,o⟩:=dA m;have d:x.1.1=4:=by rw[l];rfl
 have e:=Jt h;have i:bN ⟨N,a⟩=2:=by
  cases N with
  | zero=>simp[aw]at h
  | succ N=>
   have:a.1.1=2:=by
    have j:a.1=(2,0,c):=e;rw[j]
   exact this
 have f:x.2.2[0]?=some a:=by rw[g];rfl
 have p:x.2.2.drop 1=q:=by rw[g];rfl
 constructor
 ·simp only[eP,d,cM,f,i];rw[e];rfl
 ·simp only[bI,d,cM,f,i,p];exact o
theorem kB(a:ByteArray):si a a=true:=by simp[si]
theorem tg{o g:Type}{n:Nat}{f:Tm n->Option o}{R:Tm n->g->Prop}{Q:o->g->Prop}(j:∀y b,R y b->∃a,f y=some a/\Q a b):(q:List (Tm n))->(l:List g)->eD R q l->∃c,cC f q=some c/\eD Q c l
 | [],[],_=>⟨[],rfl,eD.nil⟩
 | [],_::_,h=>by have:=h.1;simp at this
 | _::_,[],h=>by have:=h.1;simp at this
 | y::q,b::l,h=>by
  obtain⟨a,p,k⟩:=j y b h.tail.1;obtain⟨c,r,m⟩:=tg j q l h.tail.2;refine⟨a::c,by simp[cC,p,r],by simp[m.1],λi s v d e=>?_⟩;cases i with
  | zero=>
   simp at d e;subst d e;exact k
  | succ i=>exact m.2 i s v (by simpa using d) (by simpa using e)
theorem kX{e:Type}{n m:Nat}(g:e->Tm m):(q:List (Tm n))->(l:List e)->ay (λa b=>aw n a m b) q (l.map g)=true->eD (λy b=>aw n y m (g b)=true) q l
 | [],[],_=>eD.nil
 | [],_::_,h=>by simp[ay]at h
 | _::_,[],h=>by simp[ay]at h
 | y::q,b::l,h=>by
  simp only[aI,ay,aB]at h;have ih:=kX g q l h.2;refine⟨by simp[ih.1],λi f v c d=>?_⟩;cases i with
  | zero=>
   simp at c d;subst c d;exact h.1
  | succ i=>exact ih.2 i f v (by simpa using c) (by simpa using d)
theorem jN{a s:ByteArray}(b:a.toList≠s.toList):si a s=false:=by simpa [si]using b
theorem M4(M N n:Nat)(a:Ac (n+1))(y:Tm N)(b:aw N y (n+2) (bY n a)=true):∃E,rK M N y=some E:=by
 cases N with
 | zero=>simp[aw]at b
 | succ N=>
 have i:lU.toList=[115,101,110,100]:=jJ [115,101,110,100];have j:iF.toList=[115,112,97,119,110]:=jJ [115,112,97,119,110];have k:lT.toList=[108,105,110,107]:=jJ [108,105,110,107];have l:ld.toList=[115,116,111,112]:=jJ [115,116,111,112];unfold bY at b;split at b
 ·obtain⟨c,d⟩:=mU b;obtain⟨s,t,f,r,h⟩:=dA d;obtain⟨B,C,o,z,q⟩:=dA h;have p:=lQ q;subst o p;simp only[rK,jp,c,f,kB];exact⟨_,rfl⟩
 split at b
 ·obtain⟨c,d⟩:=mU b;obtain⟨s,t,f,r,h⟩:=dA d;obtain⟨B,C,o,z,q⟩:=dA h;obtain⟨D,F,p,A,v⟩:=dA q;have g:=lQ v;subst o p g;have w:bN ⟨N,s⟩=2:=by rw[jR r];rfl
  have x:bN ⟨N,D⟩=5:=by rw[jR A];rfl
  have e:si iF lU=false:=jN (by rw[i,j];decide);simp only[rK,jp,c,f,kB,e,Bool.false_and,dZ];simp[yx,w,x]
 split at b
 ·obtain⟨c,d⟩:=mU b;obtain⟨s,t,f,r,h⟩:=dA d;have g:=lQ h;subst g;have e:si lT lU=false:=jN (by rw[i,k];decide);have m:si lT iF=false:=jN (by rw[j,k];decide);simp only[rK,jp,c,f,kB,e,m,Bool.false_and,dZ];simp
 ·obtain⟨c,d⟩:=mU b;have g:=lQ d;have e:si ld lU=false:=jN (by rw[i,l];decide);have m:si ld iF=false:=jN (by rw[j,l];decide);have u:si ld lT=false:=jN (by rw[k,l];decide);simp only[rK,jp,c,g,kB,e,m,u,Bool.false_and,dZ];simp
theorem M7(M N n:Nat)(c:Cl (n+1))(y:Tm N)(g:aw N y (n+4) (du n c)=true):∃e,yw M N y=some e:=by
 cases N with
 | zero=>simp[aw]at g
 | succ N=>
 obtain⟨o,p⟩:=mU g;obtain⟨B,G,i,D,q⟩:=dA p;obtain⟨C,H,j,E,r⟩:=dA q;obtain⟨a,I,k,d,s⟩:=dA r;obtain⟨t,J,l,F,u⟩:=dA s;have m:=lQ u;subst j k l m;have v:bN ⟨N,a⟩=4:=by rw[jR d];rfl
 cases N with
 | zero=>simp[aw]at d
 | succ N=>
 obtain⟨h,z,_⟩:=tg (f:=rK M N) (R:=λy b=>aw N y (n+2) (bY n b)=true) (Q:=λ_ _=>True) (λy b w=>by
  obtain⟨e,x⟩:=M4 M N n b y w
  exact⟨e,x,trivial⟩) a.2.2 c.2.2 (kX (bY n) _ _ (bA d).2)
 have A:cC (rK M (N+1-1)) (DN (N+1) a)=some h:=z;refine⟨((aN (M+1) (N+1) B,aN (M+1) (N+1) C,aN (M+1) (N+1) t),(none,0),h),?_⟩;show rL M (N+1) (eP (N+1) y) (bI (N+1) y)=_;rw[o,i];unfold rL;rw[if_pos (by rw[kB];rfl)];show (if bN ⟨N+1,a⟩=4 then (cC (rK M (N+1-1)) (DN (N+1) a)).map _ else none)=_;rw[if_pos v,A];rfl
theorem M6(M N n:Nat)(b:Bh (n+1))(y:Tm N)(c:aw N y (n+5) (dC n b)=true):∃a,yv M N y=some a/\a.2.2.length=b.2.2.length:=by
 cases N with
 | zero=>simp[aw]at c
 | succ N=>
 obtain⟨g,h⟩:=mU c;obtain⟨d,q,e,p,i⟩:=dA h;have j:bN ⟨N,d⟩=2:=by rw[jR p];rfl
 obtain⟨r,o,k⟩:=tg (f:=yw M N) (R:=λy b=>aw N y (n+4) (du n b)=true) (Q:=λ_ _=>True) (λy b l=>by
  obtain⟨a,m⟩:=M7 M N n b y l
  exact⟨a,m,trivial⟩) q b.2.2 (kX (du n) _ _ i)
 refine⟨(wi N d,(none,0),r),?_,k.1⟩;simp only[yv,sT,g,e,kB];simp[j,o]
theorem Jn(M N n:Nat)(q:N<=M+1)(l:List (Bh (n+1)))(e:jP (n+1) l=true)(x:Tm N)(r:aA ⟨N,x⟩)(i:aw N x (n+6) (bW n l)=true):∃a,AW M N x=some a/\jP (M+1) a=true/\a.length=l.length:=by
 cases N with
 | zero=>simp[aw]at i
 | succ N=>
 obtain⟨o,p⟩:=mU i;obtain⟨h,u,c⟩:=tg (f:=yv M N) (R:=λg b=>aw N g (n+5) (dC n b)=true) (Q:=λa b=>a.2.2.length=b.2.2.length) (λg b s=>M6 M N n b g s) (bI N x) l (kX (dC n) _ _ p);have m:AW M (N+1) x=some h:=by
  simp only[AW,o,kB];simpa using u
 refine⟨h,m,?_,c.1⟩;rw[(AX M (N+1) q x r h m).2];simp only[jP,vt,aB,bX,b9]at e ⊢;refine⟨by rw[c.1];exact e.1.1,λa t=>?_⟩;obtain⟨d,j⟩:=cJ t;have k:d<l.length:=by have:=(aM.1 j).1;rw[<-c.1];exact this
 have:=c.2 d a l[d] j (aE k);rw[this];exact(e.2 l[d] (je k)).1.1.2
def Ag(M:Nat)(o:Option (List (Bh (M+1)))):Int:=match o with|some l=>if jP (M+1) l=true then 0 else 5|none=>5
def Af(M n:Nat)(x:Tm n):Int:=if bq n x=0 then Ag M (AW M n x)else bq n x
def tf(M:Nat)(E:Int)(o:Option (List (Bh (M+1))))(w:World)(e:Ending)(w':World):Prop:=
 ∃(l:List (Bh (M+1)))(a:Option Addr)(c:Nat),e=.returned (.tuple #[.slice a l.length c,ab E])/\Hid (ai w w'/\(l.length<=c/\c<=maxLen)/\gM (M+1) w'.heap.size w' a l/\sN (jt (M+1) (λb=>w.heap.size<=b)) (λb=>w.heap.size<=b) a l/\(¬E=0->l=[])/\(E=0->∃d,o=some d/\eD (xA (M+1)) l d))
theorem rB{M:Nat}{E:Int}{o:Option (List (Bh (M+1)))}{w w':World}(a:¬E=0)(c:ai w w'):tf M E o w (.returned (.tuple #[.slice none 0 0,ab E])) w':=
 ⟨[],none,0,rfl,c,⟨aj _,aF _⟩,ag rfl,ag rfl,λ_=>rfl,λb=>(a b).elim⟩
theorem Ft(M:Nat)(k A:Int)(s:ByteArray)(a:Option Addr)(l c:Nat)(w:World)(g:Int)(o:Option (List (Bh (M+1))))(E:Int)(J:Hid (E=if g=0 then Ag M o else g))(Q:Hid (∀w1,ai w w1->ak 51 #[.agg #[ab k,ab A,ae s,.slice a l c]] w1 λe w'=>e=.returned (ab g)/\ai w1 w'))(H:Hid (g=0->∀w1,ai w w1->ak 60 #[.agg #[ab k,ab A,ae s,.slice a l c]] w1 (tF M o w1))):ak 35 #[.agg #[ab k,ab A,ae s,.slice a l c]] w (tf M E o w):=by
 go_enter Tryz.func35,Tryz.ntmps35;go_wp2_with fail;refine(Q.out _ aK).mono ?_;rintro e w1 ⟨rfl,L⟩;have q:Hid (ai w w1):=aK.trans (L.mono (by simp));have j:=ao (qn w _ _ _ _ _ L);clear L Q;by_cases z:g=0
 ·subst z;have S:=ao (H.out (by simp) w1 q.out);have X:w1.cell? ⟨w.heap.size,0,none⟩=some (ab k):=aq j.out 0;have Y:w1.cell? ⟨w.heap.size,1,none⟩=some (ab A):=aq j.out 1;have Z:w1.cell? ⟨w.heap.size,2,none⟩=some (ae s):=aq j.out 2;have aa:w1.cell? ⟨w.heap.size,3,none⟩=some (.slice a l c):=aq j.out 3;have al:w.heap.size<w1.heap.size:=(aC.1 j.out).1;have D:=ao (show E=Ag M o by simpa using J.out);clear H J;go_wp2_with fail;refine S.out.mono ?_;rintro e B ⟨p,u,y,ah,rfl,i⟩;obtain⟨t,K⟩:∃t,p.length=t:=⟨_,rfl⟩;rw[K];have G:=ao K;have r:Hid (ai w B):=q.out.trans (i.out.1.mono q.out.size);clear K S X Y Z aa j;cases ah
  ·have h:Hid (E=5):=by
     show E=5;rw[D.out];have d:=i.out.2.1;cases o with
     | none=>rfl
     | some f=>cases d
   have W:Hid (tf M E o w (.returned (.tuple #[.slice none 0 0,ab 5])) B):=by
    have d:=rB (M:=M) (E:=E) (o:=o) (by rw[h.out];omega) r.out;rw[h.out]at d;rw[h.out];exact d
   go_wp2_with fail;exact ar (v:=.tuple #[.slice none 0 0,ab 5]) (by simp[results,Tryz.results35,go_sem]) rfl W.out
  ·have F:Hid (∀m,ai B m->ak 58 #[.slice u t y] m λe w'=>e=.returned (.bool (jP (M+1) p))/\ai m w'):=λm T=>
     oZ M p t G.out u y B.heap.size m (gM.below T i.out.2.2.2.1) (by have:=i.out.2.2.1;have:=G.out;unfold maxLen at*;omega) T.size
   obtain⟨b,x⟩:∃b,jP (M+1) p=b:=⟨_,rfl⟩;rw[x]at F;have R:=ao x;clear x;have I:Hid (∃f,o=some f/\eD (xA (M+1)) p f):=by
    have d:=i.out.2.1;cases o with
    | none=>cases d
    | some f=>exact⟨f,rfl,i.out.2.2.2.2.2 f rfl⟩
   cases b
   ·have h:Hid (E=5):=by
      show E=5;obtain⟨f,O,N⟩:=I.out;rw[D.out,O];show (if jP (M+1) f=true then (0:Int)else 5)=5;rw[<-Jf N,R.out];rfl
    go_wp2_with (go_at_call 58;refine(F.out _ (am _ _)).mono ?_;rintro e m ⟨rfl,n⟩;have C:=ao (r.out.trans (n.mono r.out.size));clear n);refine ar (v:=.tuple #[.slice none 0 0,ab 5]) (by simp[results,Tryz.results35,go_sem]) rfl ?_;have d:=rB (M:=M) (E:=E) (o:=o) (by rw[h.out];omega) C.out;rw[h.out]at d;rw[h.out];exact d
   ·have U:Hid (E=0):=by
      show E=0;obtain⟨f,O,N⟩:=I.out;rw[D.out,O];show (if jP (M+1) f=true then (0:Int)else 5)=0;rw[<-Jf N,R.out];rfl
    go_wp2_with (go_at_call 58;refine(F.out _ (am _ _)).mono ?_;rintro e m ⟨rfl,n⟩;have P:=ao n;have C:=ao (r.out.trans (n.mono r.out.size));clear n);refine ar (v:=.tuple #[.slice u t y,ab 0]) (by simp[results,Tryz.results35,go_sem]) rfl ?_;obtain⟨an,ap,ad,af,ag,au⟩:=i.out;rw[U.out];exact⟨p,u,y,by rw[G.out],C.out,ad,(gM.below P.out af).mono P.out.size,(cu (dJ _) 2 (oR (M+1)) u).1 _ _ _ (λb x=>ax q.out.size x) ag,λd=>(d rfl).elim,λ_=>I.out⟩
 ·have aj:(g !=0)=true:=by simpa using z
  have V:Hid (E=g):=by
   show E=g;rw[J.out,if_neg z]
  clear H j;go_wp2_with fail;refine ar (v:=.tuple #[.slice none 0 0,ab g]) (by simp[results,Tryz.results35,go_sem]) rfl ?_;rw[V.out];exact rB z q.out
theorem Ah(M n:Nat)(g:n<=M+1)(x:Tm n)(B:Nat)(w:World)(c:In B w n x)(f:(av n x).length<=2097152)(b:B<=w.heap.size):ak 35 #[df n x] w (tf M (Af M n x) (AW M n x) w):=by
 cases n with
 | zero=>exact c.elim
 | succ n=>
 exact Ft M x.1.1 x.1.2.1 x.1.2.2 x.2.1.1 x.2.2.length x.2.1.2 w (bq (n+1) x) _ _ rfl (λd a=>dB (n+1) x B d (c.below (a.mono b)) (ax b a.size) f) (λe d a=>yG M (n+1) g x B d (c.below (a.mono b)) (aJ.2 (bz.1 e).1) (ax b a.size))
theorem pw{n:Nat}{x:Tm n}(a:bq n x=0):aA ⟨n,x⟩:=aJ.2 (bz.1 a).1
theorem fE{n:Nat}{p:List (Bh (n+1))}(b:nn n p=0):jP (n+1) p=true/\bq (n+6) (bW n p)=0/\JN n p=bW n p:=by
 have a:=b;unfold nn at a;split at a
 ·rename_i c;exact⟨c,a,by unfold JN;rw[if_pos b]⟩
 ·omega
theorem Nc{n:Nat}{p:List (Bh (n+1))}(a:jP (n+1) p=true)(k:bq (n+6) (bW n p)=0):nn n p=0:=by
 unfold nn;rw[if_pos a];exact k
theorem wL{M n:Nat}(i:n<=M+1){x:Tm n}(e:bq n x=0){a l:List (Bh (M+1))}(j:AW M n x=some a)(f:eD (xA (M+1)) l a)(h:jP (M+1) a=true):jP (M+1) l=true/\nn M l=0/\aw (M+6) (JN M l) n x=true/\(av (M+6) (bW M l)).length=(av n x).length:=by
 have g:=AX M n i x (pw e) a j;have c:jP (M+1) l=true:=(Jf f).trans h;have b:aw (M+6) (bW M l) n x=true:=bD _ _ _ _ _ _ (Jg f) g.1;have d:nn M l=0:=Nc c ((bL b).trans e);exact⟨c,d,by rw[(fE d).2.2];exact b,jS _ _ _ _ b⟩
theorem GD{n:Nat}{p:List (Bh (n+1))}(i:nn n p=0){y:Tm (n+6)}(a:aw (n+6) y (n+6) (JN n p)=true):bq (n+6) y=0/\Af (n+5) (n+6) y=0/\∀e l,AW (n+5) (n+6) y=some e->eD (xA (n+6)) l e->jP (n+6) l=true/\nn (n+5) l=0/\aw (n+11) (JN (n+5) l) (n+6) (JN n p)=true/\l.length=p.length/\(av (n+11) (bW (n+5) l)).length=(av (n+6) (bW n p)).length:=by
 obtain⟨j,k,f⟩:=fE i;rw[f]at a;have b:bq (n+6) y=0:=(bL a).trans k;obtain⟨e,d,h,m⟩:=Jn (n+5) (n+6) n (aj _) p j y (pw b) a;refine⟨b,?_,λt l c g=>?_⟩
 ·unfold Af;rw[if_pos b,d];unfold Ag;simp only[h,cM]
 ·rw[d]at c;injection c with c;subst c;obtain⟨o,q,r,s⟩:=wL (aj _) b d g h;exact⟨o,q,by rw[f];exact bD _ _ _ _ _ _ r a,g.1.trans m,by rw[s];exact jS _ _ _ _ a⟩
def lu(lo:Nat)(room:Int)(K:Nat)(e:Nat->Prop)(B:Nat)(w:World):List (Int×ByteArray×Tc)->List Nat->Nat->Prop
 | [],[],c=>c<=B
 | x::l,b::bs,c=>∃a d,(c<=a/\a<=d)/\P1 lo b x.2.1 room x.2.2 [] K (λq=>a<=q/\q<d) w/\(∀q,a<=q->q<d->¬e q)/\lu lo room K e B w l bs d
 | _,_,_=>False
section
variable {lo K:Nat} {room:Int} {X:Nat->Prop} {B:Nat} {w:World}
theorem lu.le:{l:List (Int×ByteArray×Tc)}->{a:List Nat}->{c:Nat}->lu lo room K X B w l a c->c<=B
 | [],[],_,h=>h
 | [],_::_,_,h=>h.elim
 | _::_,[],_,h=>h.elim
 | _::_,_::_,_,⟨c1,c2,h1,_,_,h4⟩=>by have:=h4.le;omega
theorem lu.kept2{w':World}{S f:Nat->Prop}{e c0:Nat}(a:bk S w w')(j:∀q,c0<=q->q<B->S q->X q)(k:∀q,q<B->f q->X q)(i:B<=e):{l:List (Int×ByteArray×Tc)}->{g:List Nat}->{c:Nat}->c0<=c->lu lo room K X B w l g c->lu lo room K f e w' l g c
 | [],[],_,_,h=>ax h i
 | [],_::_,_,_,h=>h.elim
 | _::_,[],_,_,h=>h.elim
 | _::_,_::_,_,hc,⟨c1,c2,h1,h2,h3,h4⟩=>by
  have o:=h4.le;exact⟨c1,c2,h1,h2.kept (S:=S) ⟨a.os,a.tape,a.output,a.size,a.block⟩ λb q d=>h3 b q.1 q.2 (j b (by omega) (by omega) d),λq m n d=>h3 q m n (k q (by omega) d),h4.kept2 a j k i (by omega)⟩
theorem lu.kept{w':World}{S b:Nat->Prop}{a:Nat}(i:bk S w w')(g:∀q,q<B->S q->X q)(h:∀q,q<B->b q->X q)(f:B<=a){l:List (Int×ByteArray×Tc)}{d:List Nat}{c:Nat}(e:lu lo room K X B w l d c):lu lo room K b a w' l d c:=e.kept2 (c0:=0) i (λq _=>g q) h f (aF _)
theorem lu.snoc{a B2 e b:Nat}{x:Int×ByteArray×Tc}(g:B<=a)(d:a<=B2/\B2<=e)(i:P1 lo b x.2.1 room x.2.2 [] K (λq=>a<=q/\q<B2) w)(j:∀q,a<=q->q<B2->¬X q):{l:List (Int×ByteArray×Tc)}->{f:List Nat}->{c:Nat}->lu lo room K X B w l f c->lu lo room K X e w (l++ [x]) (f++ [b]) c
 | [],[],_,h=>⟨a,B2,⟨ax h g,d.1⟩,i,j,d.2⟩
 | [],_::_,_,h=>h.elim
 | _::_,[],_,h=>h.elim
 | _::_,_::_,_,⟨c1,c2,h1,h2,h3,h4⟩=>⟨c1,c2,h1,h2,h3,h4.snoc g d i j⟩
end
section
variable {p:kJ} {s:Sy} {d:fS} {w:World}
theorem Ld{n:Nat}{x:Tm n}(room:Int)(nm:ByteArray)(b:bq n x=0):fQ 13 (cn n x) room nm=fQ n x room nm:=by
 have a:=eC b;unfold fQ jo;rw[bL a,cr _ _ _ _ a,kY _ _ _ _ a]
theorem aX.made(z:aX p s d w){N ad:Nat}{pa:Option Addr}{pl pc:Nat}{t:List (Int×ByteArray×Tm (N+1))}(aA:w.ownsRow ad 159 6 (.slice pa pl pc) pl (t.flatMap λg=>M9 g.1 g.2.1 g.2.2))(aw:t.length=pl)(Y:pl<=1000)(aC:∀g∈t,bq _ g.2.2=0/\In w.heap.size w _ g.2.2):ak 45 #[.pointer (some ⟨p.b,0,none⟩),.slice pa pl pc] w λe w'=>∃v b,e=.returned (.tuple #[v,.bool b])/\Hid (ai w w'/\b=s.made p.n p.prog p.room (t.map λg=>(g.1,g.2.1,cn _ g.2.2))/\(b=true->∃m a c,v=.slice a pl c/\m.length=pl/\w'.ownsRow w.heap.size 60 1 v pl (m.map yZ)/\lu p.lo p.room (d.k+201) (λq=>v.ownBlock=some q) w'.heap.size w' (t.map λg=>(g.1,g.2.1,cn _ g.2.2)) m w.heap.size)):=by
 have ay:jP (p.n+1) p.prog=true:=(fE z.pg.2.2.2.1).1;obtain⟨aQ,O,ae,_,ap⟩:=qJ aA (by decide) λg=>rfl;injection ae with ag aS aR;subst ag;have F:∀f,f<pl->t[f]?=some (t.getD f (0,⟨#[]⟩,((0,0,⟨#[]⟩),(none,0),[]))):=λf i=>by
  rw[mf,aE (by omega)];rfl
 generalize T:(λf=>t.getD f (0,⟨#[]⟩,((0,0,⟨#[]⟩),(none,0),[])))=h;have F:∀f,f<pl->t[f]?=some (h f):=λf i=>by rw[F f i,<-T]
 clear T;obtain⟨o,J⟩:∃o,o=t.map λg=>(g.1,g.2.1,cn _ g.2.2):=⟨_,rfl⟩;rw[<-J];have U:o.length=pl:=by rw[J,eh,aw]
 have K:∀f,f<pl->o[f]?=some ((h f).1,(h f).2.1,cn _ (h f).2.2):=λf i=>by rw[J,dh,F f i];rfl
 have W:∀f,f<pl->bq _ (h f).2.2=0/\In w.heap.size w _ (h f).2.2:=λf i=>aC _ (aG (F f i));have X:∀f,f<pl->fQ 13 (cn _ (h f).2.2) p.room (h f).2.1=fQ _ (h f).2.2 p.room (h f).2.1:=λf i=>Ld _ _ (W f i).1;have aF:∀f,f<pl->o.take (f+1)=o.take f++ [((h f).1,(h f).2.1,cn _ (h f).2.2)]:=λf i=>by
  rw[dx,K f i];rfl
 refine FJ p.b pa pl pc (s.may pl) p.room w (λf=>(h f).1) (λf=>(h f).2.2.1.1) (λf=>(h f).2.2.1.2.1) (λf=>(h f).2.1) (λf=>(h f).2.2.1.2.2) (λf=>(h f).2.2.2.1.1) (λf=>(h f).2.2.2.2.length) (λf=>(h f).2.2.2.1.2) (λf=>kC p.n p.prog (h f).2.1) (λf=>fQ _ (h f).2.2 p.room (h f).2.1) (λf m v j=>lu p.lo p.room (d.k+201) (λq=>v.ownBlock=some q) j.heap.size j (o.take f) m w.heap.size/\∀q,v.ownBlock=some q->q<j.heap.size)
  (λf G m v j=>∃x,(w.heap.size<=x/\x<=j.heap.size)/\(lu p.lo p.room (d.k+201) (λq=>v.ownBlock=some q) x j (o.take f) m w.heap.size)/\(∀q,v.ownBlock=some q->q<x)/\P1 p.lo G (h f).2.1 p.room (cn _ (h f).2.2) [] (d.k+201) (λq=>x<=q/\q<j.heap.size) j) (λv b w'=>ai w w'/\b=s.made p.n p.prog p.room o/\(b=true->∃m a c,v=.slice a pl c/\m.length=pl/\w'.ownsRow w.heap.size 60 1 v pl (m.map yZ)/\lu p.lo p.room (d.k+201) (λq=>v.ownBlock=some q) w'.heap.size w' o m w.heap.size)) Y z.lo.2 z.cells.2.1 (λf i=>?_) (z.mayHave pl Y) (λf j i l=>(z.later l).knows _) (λf m v j i r l E=>?_) ?_ (λf m v j H E l=>?_) (λf G m a c D O j ab H B ao l A aq ar=>?_) (λj l u=>?_) λj m a c l al Q am an R=>?_
 ·obtain⟨D,I,P,y⟩:=ap f _ (F f i);exact⟨D,I,P,y 0 _ rfl,y 1 _ rfl,y 2 _ rfl,y 3 _ rfl,y 4 _ rfl,y 5 _ rfl⟩
 ·have aV:=CA ay r;obtain⟨aI,aJ⟩:=W f i;refine(P1.new _ (h f).2.2 p.room (h f).2.1 j (by omega) ((aJ.below l).mono l.size) (eR aI)).mono ?_;rintro e w' ⟨q,rfl,aa⟩;obtain⟨L,aW,aK⟩:=aa.out;refine⟨q,rfl,L,λe=>?_⟩;obtain⟨G,I,P,y,af⟩:=aK e;have:=z.lo.1;have:=l.size;refine⟨G,I,j.heap.size,⟨l.size,L.size⟩,E.1.kept (aD L λ_=>False) (λ_ _ g=>g.elim) (λ_ _ g=>g) (aj _),E.2,af.mono (λb g=>g) (by omega) λb g=>⟨by omega,g.2⟩⟩
 ·exact⟨aj _,(λq g=>by cases g)⟩
 ·exact⟨E.1.kept (aD l λ_=>False) (λ_ _ g=>g.elim) (λ_ _ g=>g) l.size,λq g=>aL (E.2 q g) l.size⟩
 ·obtain⟨x,⟨aY,aZ⟩,aN,Z,aO⟩:=ao;have av:bk (λq=>(Value.slice a f c).ownBlock=some q) ab H:=⟨A.os,A.tape,A.output,A.size,λk r ax=>A.block k r λe=>ax e.symm⟩;have r:bk (λq=>(Value.slice a f c).ownBlock=some q) j H:=(aD l _).trans av λ_ _ e=>e;have aT:=l.size;have aU:=A.size;have V:∀q,q<j.heap.size->(Value.slice (some ⟨D,0,none⟩) (f+1) O).ownBlock=some q->(Value.slice a f c).ownBlock=some q:=λq az g=>by
   obtain rfl:D=q:=au g;rcases aq with e|e
   ·exact e
   ·omega
  refine⟨?_,λq g=>?_⟩
  ·rw[aF f B];refine lu.snoc (aj x) (B2:=j.heap.size) (by omega) ?_ ?_ (aN.kept r (λq _ g=>g) (λq az g=>V q (by omega) g) (aj _))
   ·exact aO.kept (S:=λq=>(Value.slice a f c).ownBlock=some q) ⟨r.os,r.tape,r.output,r.size,r.block⟩ λb g C=>by have:=Z b C;omega
   ·exact λq M C aP=>by have:=Z q (V q C aP);omega
  ·obtain rfl:D=q:=au g;exact ar
 ·refine⟨l,?_,(λg=>by cases g)⟩;unfold Sy.made;rw[U];rcases u with u|⟨f,i,u⟩
  ·rw[u];rfl
  ·refine Eq.symm (Bool.and_eq_false_iff.2 (ah ?_));rw[List.all_eq_false];refine⟨_,aG (K f i),?_⟩;simp only[aB,bV,not_and];intro M C;rw[X f i]at C;rcases u with u|u
   ·rw[u]at M;cases M
   ·exact u C
 ·refine⟨l,?_,λ_=>⟨m,a,c,rfl,am,an,?_⟩⟩
  ·unfold Sy.made;rw[U,al,dZ,eq_comm,b9];intro a0 aH;obtain⟨f,i⟩:=List.mem_iff_getElem?.1 aH;have B:f<pl:=by have:=(aM.1 i).1;omega
   rw[K f B]at i;obtain rfl:=au i;simp only[aB,bV];exact⟨(Q f B).1,(X f B).trans (Q f B).2⟩
  ·rw[bw (by omega)]at R;exact R.1
end
theorem yH(x:Nat)(a O P:Int)(Q:ByteArray)(ma:Option Addr)(T S:Nat)(f:Int)(sa:Option Addr)(sl sc:Nat)(pa:Option Addr)(pl pc:Nat)(ka:Option Addr)(kl kc:Nat)(aq:Option Addr)(vl aB:Nat)(aa:Nat->Nat)(C D E:Nat->Int)(F:Nat->ByteArray)(xa:Nat->Option Addr)(G xc:Nat->Nat)(ap:Nat->Int)(w:World)(k o p:Nat->Nat->World->Prop)(R:World->Prop)(aK:vl<=1000)(aJ:sl<=1000)(aI:kl<=1000)(X:Hid (∀q W,ai w W->w.heap.size<=q->W.heap[q]?=some (.cells #[ab O,ab P,ae Q,.slice ma T S,ab f,.slice sa sl sc,.slice pa pl pc,.slice ka kl kc] 112)->k q 0 W))(H:Hid (∀q W,k q vl W->o q 0 W))(y:Hid (∀q W,o q sl W->p q 0 W))(i:Hid (∀q j W,(k q j W\/o q j W\/p q j W)->W.heap[q]?=some (.cells #[ab O,ab P,ae Q,.slice ma T S,ab f,.slice sa sl sc,.slice pa pl pc,.slice ka kl kc] 112)))(I:Hid (∀q j W,j<vl->k q j W->(∃g,aq=some ⟨g,0,none⟩/\W.cell? ⟨g,j,none⟩=some (.pointer (some ⟨aa j,0,none⟩)))/\Hid (ak 40 #[.pointer (some ⟨x,0,none⟩),ab a,.pointer (some ⟨aa j,0,none⟩)] W λe w'=>e=.returned (.tuple #[])/\Hid (k q (j+1) w'))))(z:Hid (∀q j W,j<sl->o q j W->(∃g,sa=some ⟨g,0,none⟩/\W.cell? ⟨g,j*5,none⟩=some (ab (C j))/\W.cell? ⟨g,j*5+1,none⟩=some (ab (D j))/\W.cell? ⟨g,j*5+2,none⟩=some (ab (E j))/\W.cell? ⟨g,j*5+3,none⟩=some (ae (F j))/\W.cell? ⟨g,j*5+4,none⟩=some (.slice (xa j) (G j) (xc j)))/\Hid (∀Z,ai W Z->ak 75 #[.pointer (some ⟨x,0,none⟩),ab a,ab (C j),.agg #[ab (D j),ab (E j),ae (F j),.slice (xa j) (G j) (xc j)]] Z λe w'=>e=.returned (.tuple #[])/\Hid (o q (j+1) w'))))(t:Hid (∀q j W,j<kl->p q j W->(∃g,ka=some ⟨g,0,none⟩/\W.cell? ⟨g,j,none⟩=some (ab (ap j)))/\Hid (ak 76 #[.pointer (some ⟨x,0,none⟩),ab a,ab (ap j)] W λe w'=>e=.returned (.tuple #[])/\Hid (p q (j+1) w'))))(s:Hid (∀q W,p q kl W->(f=1->ak 46 #[.pointer (some ⟨x,0,none⟩),ab a,ab 1] W λe w'=>e=.returned (.tuple #[])/\Hid (R w'))/\(f≠1->R W))):ak 47 #[.pointer (some ⟨x,0,none⟩),ab a,.agg #[ab O,ab P,ae Q,.slice ma T S,ab f,.slice sa sl sc,.slice pa pl pc,.slice ka kl kc],.slice aq vl aB] w λe w'=>e=.returned (.tuple #[])/\Hid (R w'):=by
 go_enter Tryz.func47,Tryz.ntmps47;go_upto_region 1 with fail;generalize m:w.alloc _=ar;obtain⟨q,B⟩:∃q,q=w.heap.size:=⟨_,rfl⟩;rw[<-B];have V:Hid (k q 0 ar):=X.out q ar (by rw[<-m];exact(am _ _).alloc (aj _) _) (dm B.symm) (by rw[<-m,B];exact az _ _);clear m B X;go_wp2_with fail;go_loopw [9,16] (λ_ c wr=>∃(j:Nat),j<=vl/\c=ab j/\Hid (k q j wr)) (λ_ c _=>vl-(intOf c).toNat)
 case atStart=>exact⟨0,aF _,rfl,V.out⟩
 case round=>
 obtain⟨j,A,rfl,b⟩:=hrel;by_cases l:j<vl
 ·obtain⟨⟨g,rfl,M⟩,n⟩:=I.out q j wr l b.out;have al:(0:Int)<=(j:Int):=by omega
  have an:(j:Int)<(vl:Int):=by omega
  clear H y i I z t s b;go_wp2_with fail;refine n.out.mono ?_;rintro e d ⟨rfl,h⟩;go_wp2_with fail;go_roundw
  case rel=>exact⟨j+1,by omega,by go_num,h.out⟩
  case measure=>simp[intOf];omega
 obtain rfl:j=vl:=by omega
 have K:=ao (H.out _ _ b.out);clear b I H V A l;have ay:wr.cell? ⟨q,5,none⟩=some (.slice sa sl sc):=af (i.out q 0 wr (ah (ag K.out))) 5;go_wp2_with fail;clear ay;go_loopw [11,28] (λ_ c U=>∃(j:Nat),j<=sl/\c=ab j/\Hid (o q j U)) (λ_ c _=>sl-(intOf c).toNat)
 case atStart=>exact⟨0,aF _,rfl,K.out⟩
 case round=>
 clear K;obtain⟨j,A,rfl,b⟩:=hrel;by_cases l:j<sl
 ·obtain⟨⟨g,rfl,M,av,aw,ax,ad⟩,n⟩:=z.out q j _ l b.out;have al:(0:Int)<=(j:Int):=by omega
  have an:(j:Int)<(sl:Int):=by omega
  clear y i z t s b;go_upto_region 9 with fail;generalize m:World.alloc _ _=d;have r:d.heap[wr.heap.size]?=some (.cells #[ab (C j),ab (D j),ab (E j),ae (F j),.slice (xa j) (G j) (xc j)] 162):=by
   rw[<-m];exact az _ _
  have au:=ao (n.out d (by rw[<-m];exact(am _ _).alloc (aj _) _));generalize wr.heap.size=u at*;have aC:d.cell? ⟨u,0,none⟩=some (ab (C j)):=af r 0;have d1:d.cell? ⟨u,1,none⟩=some (ab (D j)):=af r 1;have aD:d.cell? ⟨u,2,none⟩=some (ab (E j)):=af r 2;have aE:d.cell? ⟨u,3,none⟩=some (ae (F j)):=af r 3;have aG:d.cell? ⟨u,4,none⟩=some (.slice (xa j) (G j) (xc j)):=af r 4;clear m r n M av aw ax ad;go_wp2_with fail;refine au.out.mono ?_;rintro e aL ⟨rfl,h⟩;go_wp2_with fail;go_roundw
  case rel=>exact⟨j+1,by omega,by go_num,h.out⟩
  case measure=>simp[intOf];omega
 obtain rfl:j=sl:=by omega
 have L:=ao (y.out _ _ b.out);clear b z y A l;have aA:wr.cell? ⟨q,7,none⟩=some (.slice ka kl kc):=af (i.out q 0 wr (ah (ah L.out))) 7;go_wp2_with fail;clear aA;go_loopw [13,43] (λ_ c U=>∃(j:Nat),j<=kl/\c=ab j/\Hid (p q j U)) (λ_ c _=>kl-(intOf c).toNat)
 case atStart=>exact⟨0,aF _,rfl,L.out⟩
 case round=>
 clear L;obtain⟨j,A,rfl,b⟩:=hrel;by_cases l:j<kl
 ·obtain⟨⟨g,rfl,M⟩,n⟩:=t.out q j _ l b.out;have al:(0:Int)<=(j:Int):=by omega
  have an:(j:Int)<(kl:Int):=by omega
  clear i t s b;go_wp2_with fail;refine n.out.mono ?_;rintro e d ⟨rfl,h⟩;go_wp2_with fail;go_roundw
  case rel=>exact⟨j+1,by omega,by go_num,h.out⟩
  case measure=>simp[intOf];omega
 obtain rfl:j=kl:=by omega
 have ad:wr.cell? ⟨q,4,none⟩=some (ab f):=af (i.out q _ wr (ah (ah b.out))) 4;have Y:=ao (s.out q _ b.out);clear b t i s;by_cases N:f=1
 ·subst N;have J:=ao (Y.out.1 rfl);go_wp2_with fail;refine J.out.mono ?_;rintro e d ⟨rfl,h⟩;go_wp2_with fail;exact dO (v:=.tuple #[]) (by simp[results]) rfl ⟨rfl,h.out⟩
 ·have J:=ao (Y.out.2 N);have aH:(f==1)=false:=by simpa using N
  go_wp2_with fail;exact dO (v:=.tuple #[]) (by simp[results]) rfl ⟨rfl,J.out⟩
def pt(M:Nat->Prop)(a:Nat)(d b:fS)(w w':World):Prop:=bk (λq=>d.ow q<0) w w'/\(∀q,q<w.heap.size->¬M q->b.ow q=d.ow q)/\(∀q,q<w.heap.size->M q->0<=b.ow q)/\b.k=d.k/\b.es.length<=d.es.length+a/\b.wn<=d.wn+a/\b.bn<=d.bn+a
section
variable {p:kJ} {s:Sy} {d d1 d2:fS} {w w1 w2:World} {M:Nat->Prop} {a b:Nat}
theorem pt.up(m:pt M a d d1 w w1)(k:dH b d1 d2 w1 w2):pt M (a+b) d d2 w w2:=by
 obtain⟨h,i,j,n,q,r,s⟩:=m;obtain⟨o,l,p,u,v,x⟩:=k;have t:=h.size;refine⟨h.trans o λc e g=>?_,λc e f=>(l c (by omega)).trans (i c e f),λc e f=>by rw[l c (by omega)];exact j c e f,p.trans n,by omega,by omega,by omega⟩;by_cases f:M c
 ·have:=j c e f;omega
 ·rw[i c e f]at g;exact g
theorem pt.ad{M':Nat->Prop}(m:pt M a d d1 w w1)(k:MA M' b d1 d2 w1 w2)(o:∀q,M' q->M q):pt M (a+b) d d2 w w2:=by
 obtain⟨h,i,j,n,t,u,v⟩:=m;obtain⟨p,l,r,s,y,z,A⟩:=k;have x:=h.size;refine⟨h.trans p λq e g=>?_,λq e c=>(l q (by omega) λf=>c (o q f)).trans (i q e c),λq e c=>?_,s.trans n,by omega,by omega,by omega⟩
 ·by_cases c:M q
  ·have:=j q e c;omega
  ·rw[i q e c]at g;exact g
 ·by_cases f:M' q
  ·have:=r q f;omega
  ·rw[l q (by omega) f];exact j q e c
theorem pt.mono(c:pt M a d d1 w w1)(l:a<=b):pt M b d d1 w w1:=by
 obtain⟨e,f,g,h,i,j,k⟩:=c;exact⟨e,f,g,h,by omega,by omega,by omega⟩
theorem ED.ug{m:Nat}{x:Tm m}(e:ED d w x)(k:pt M a d d1 w w1):ED d1 w1 x:=by
 have g:=eS k.1 (D:=λb=>0<=d.ow b/\b<w.heap.size) (λb c f=>by omega) ⟨e.1,In.offB e.2 e.1⟩;refine⟨g.1,g.2.mono λb c=>?_⟩;by_cases f:M b
 ·exact k.2.2.1 b c.2 f
 ·rw[k.2.1 b c.2 f];exact c.1
theorem zZ(a:Int):(l:List (Int×ByteArray×Tc))->(s:Sy)->(l.foldl (λs x=>s.add a x.2.1 x.2.2) s).ps.length=s.ps.length+l.length/\(l.foldl (λs x=>s.add a x.2.1 x.2.2) s).last=s.last+l.length
 | [],s=>by simp
 | x::l,s=>by
  have b:=zZ a l (s.add a x.2.1 x.2.2);rw[ge,b.1,b.2];simp only[Sy.add,Sy.tell,bf,aZ,jZ];omega
theorem aX.follow(aB:aX p s d w){a:Int}(an:dk a)(i:Tk)(a7:ze 8 i.sends i.spawns i.links)(y0 y1:Int)(y2:ByteArray)(ya:Option Addr)(yl yc:Nat){N ay aU c B:Nat}{sa:Option Addr}{sl sc:Nat}{pa:Option Addr}{pl pc:Nat}{ka:Option Addr}{kl kc:Nat}{L:Option Addr}{vl R:Nat}{K:List (Int×Tm (N+1))}{J:List Nat}{ax:Nat->Prop}(bg:w.ownsRow ay 162 5 (.slice sa sl sc) sl (K.flatMap λg=>Ma g.1 g.2))(a9:w.ownsRow ay 3 1 (.slice ka kl kc) kl (i.links.map λX=>ab X))(bi:w.ownsRow aU 60 1 (.slice L vl R) vl (J.map yZ))(ba:K.length=sl/\i.links.length=kl/\J.length=vl/\i.spawns.length=vl)(ap:K.map (λg=>(g.1,cn _ g.2))=i.sends)(bh:∀g∈K,bq _ g.2=0/\ED d w g.2)(bc:∀q,((Value.slice sa sl sc).ownBlock=some q\/(Value.slice ka kl kc).ownBlock=some q\/(Value.slice L vl R).ownBlock=some q)->0<=d.ow q)(a4:lu p.lo p.room (d.k+201) ax B w i.spawns J c)(bu:B<=w.heap.size)(how:∀q,c<=q->q<B->d.ow q=0)(bb:s.may vl=true)(bz:d.k<=47000)(bv:d.es.length<=97000)(bE:d.wn<=900000)(bx:d.bn<=900000):ak 47 #[.pointer (some ⟨p.b,0,none⟩),ab a,Nu y0 y1 y2 ya yl yc i.fate sa sl sc pa pl pc ka kl kc,.slice L vl R] w λe w'=>e=.returned (.tuple #[])/\Hid (∃O,aX p (s.follow a i) O w'/\pt (λq=>c<=q/\q<B) 200 d O w w'):=by
 obtain⟨bj,bF,bG,bH⟩:=ba;obtain⟨⟨aA,bs,bt⟩,a0,a1⟩:=a7;have bC:=IY bb;have bD:sl<=8:=by rw[<-bj];rw[<-ap,eh]at aA;exact aA
 have T:∀{D:Type}(l:List D)(g:D)(f:Nat),f<l.length->l[f]?=some (l.getD f g):=λl g f j=>by
  rw[mf,aE j];rfl
 obtain⟨n,af⟩:∃n:Nat->Int×Tm (N+1),∀f,f<sl->K[f]?=some (n f):=⟨_,λf j=>T K (0,((0,0,⟨#[]⟩),(none,0),[])) f (by omega)⟩;obtain⟨aw,ai⟩:∃n:Nat->Int,∀f,f<kl->i.links[f]?=some (n f):=⟨_,λf j=>T i.links 0 f (by omega)⟩;obtain⟨au,aF⟩:∃n:Nat->Nat,∀f,f<vl->J[f]?=some (n f):=⟨_,λf j=>T J 0 f (by omega)⟩;obtain⟨bo,aH⟩:∃n:Nat->Int×ByteArray×Tc,∀f,f<vl->i.spawns[f]?=some (n f):=⟨_,λf j=>T i.spawns (0,⟨#[]⟩,sJ) f (by omega)⟩;have ao:∀q,((Value.slice sa sl sc).ownBlock=some q\/(Value.slice ka kl kc).ownBlock=some q\/(Value.slice L vl R).ownBlock=some q)->¬d.ow q<0:=λq g=>by have:=bc q g;omega
 have a5:∀h,bk (λq=>d.ow q<0) w h->∀f,f<sl->∃o,sa=some ⟨o,0,none⟩/\∀(t:Nat)(X:Value),(Ma (n f).1 (n f).2)[t]?=some X->h.cell? ⟨o,f*5+t,none⟩=some X:=λh P f j=>by
  obtain⟨_,_,x,_,C⟩:=qJ (aY bg P λq g=>ao q (ag g)) (by decide) λg=>rfl;injection x with x;subst x;obtain⟨o,z,_,A⟩:=C f _ (af f j);exact⟨o,z,A⟩
 have a3:∀h,bk (λq=>d.ow q<0) w h->∀f,f<kl->∃o,ka=some ⟨o,0,none⟩/\h.cell? ⟨o,f,none⟩=some (ab (aw f)):=λh P f j=>by
  have Q:=aY a9 P λq g=>ao q (ah (ag g));rw[List.map_eq_flatMap]at Q;obtain⟨_,_,x,_,C⟩:=qJ Q (by decide) λg=>rfl;injection x with x;subst x;obtain⟨o,z,_,A⟩:=C f _ (ai f j);have:=A 0 _ rfl;simp only[Nat.mul_one,iL]at this;exact⟨o,z,this⟩
 have a6:∀h,bk (λq=>d.ow q<0) w h->∀f,f<vl->∃o,L=some ⟨o,0,none⟩/\h.cell? ⟨o,f,none⟩=some (.pointer (some ⟨au f,0,none⟩)):=λh P f j=>by
  have Q:=aY bi P λq g=>ao q (ah (ah g));rw[List.map_eq_flatMap]at Q;obtain⟨_,_,x,_,C⟩:=qJ Q (by decide) λg=>rfl;injection x with x;subst x;obtain⟨o,z,_,A⟩:=C f _ (aF f j);have:=A 0 _ rfl;simp only[Nat.mul_one,iL]at this;exact⟨o,z,this⟩
 have aJ:∀{D:Type}{l:List D}{f:Nat}{g:D},l[f]?=some g->l.drop f=g::l.drop (f+1):=λ{D l f g} e=>by
  obtain⟨a2,rfl⟩:=aM.1 e;exact ee a2
 have aq:∀{D:Type}{l:List D}{f:Nat}{g:D},l[f]?=some g->l.take (f+1)=l.take f++ [g]:=λ{D l f g} e=>by
  rw[dx,e];rfl
 obtain⟨U,aN⟩:∃U,U=i.spawns.foldl (λs v=>s.add a v.2.1 v.2.2) s:=⟨_,rfl⟩;obtain⟨V,aO⟩:∃V,V=i.sends.foldl (λs v=>s.send a v.1 v.2) U:=⟨_,rfl⟩;obtain⟨W,aP⟩:∃W,W=i.links.foldl (λs v=>s.link a v) V:=⟨_,rfl⟩;have bf:s.follow a i=if i.fate=1 then W.fin a 1 else W:=by rw[aP,aO,aN];rfl
 let az:Obj:=.cells #[ab y0,ab y1,ae y2,.slice ya yl yc,ab i.fate,.slice sa sl sc,.slice pa pl pc,.slice ka kl kc] 112;let Z:Nat->Prop:=λq=>c<=q/\q<B;let av:Sy->Nat->Nat->World->Prop:=λbl k q h=>∃d1,aX p bl d1 h/\pt Z k d d1 w h/\(w.heap.size<=q/\q<h.heap.size/\h.heap[q]?=some az/\d1.ow q=0)
 refine yH p.b a y0 y1 y2 ya yl yc i.fate sa sl sc pa pl pc ka kl kc L vl R au (λf=>(n f).1) (λf=>(n f).2.1.1) (λf=>(n f).2.1.2.1) (λf=>(n f).2.1.2.2) (λf=>(n f).2.2.1.1) (λf=>(n f).2.2.2.length) (λf=>(n f).2.2.1.2) aw w
  (λq f h=>∃d1,aX p ((i.spawns.take f).foldl (λs v=>s.add a v.2.1 v.2.2) s) d1 h/\pt Z f d d1 w h/\(w.heap.size<=q/\q<h.heap.size/\h.heap[q]?=some az/\d1.ow q=0)/\∃S,c<=S/\lu p.lo p.room (d.k+201) ax B h (i.spawns.drop f) (J.drop f) S/\∀q,S<=q->q<B->d1.ow q=0)
  (λq f h=>av ((i.sends.take f).foldl (λs v=>s.send a v.1 v.2) U) (vl+2*f) q h) (λq f h=>av ((i.links.take f).foldl (λs v=>s.link a v) V) (vl+2*sl+f) q h) (λw'=>∃O,aX p (s.follow a i) O w'/\pt Z 200 d O w w') (by omega) (by omega) (by omega) (λq h al aK aI=>?_) (λq h y=>?_) (λq h y=>?_) (λq f h y=>?_) (λq f h j y=>?_) (λq f h j y=>?_) (λq f h j y=>?_) λq h y=>?_
 ·have be:=(aC.1 aI).1;refine⟨d,aB.later al,⟨aD al _,λ_ _ _=>rfl,λq _ g=>by rw[how q g.1 g.2];exact iJ 0,rfl,aj _,aj _,aj _⟩,⟨aK,be,aI,?_⟩,c,aj _,a4.kept (aD al λ_=>False) (λ_ _ g=>g.elim) (λ_ _ g=>g) (aj _),how⟩;by_cases g:d.ow q=0
  ·exact g
  ·have:=(aB.low q g).2;omega
 ·obtain⟨d1,r,m,E,_⟩:=y;rw[bw (by omega),<-aN]at r;exact⟨d1,r,m,E⟩
 ·obtain⟨d1,r,m,E⟩:=y;rw[bw (by rw[<-ap,eh];omega),<-aO]at r;exact⟨d1,r,m,E⟩
 ·rcases y with⟨d1,_,_,E,_⟩|⟨d1,_,_,E⟩|⟨d1,_,_,E⟩
  ·exact E.2.2.1
  ·exact E.2.2.1
  ·exact E.2.2.1
 ·obtain⟨d1,r,m,⟨z,F,A,G⟩,S,bI,aR,ar⟩:=y;refine⟨a6 h m.1 f j,?_⟩;rw[aJ (aH f j),aJ (aF f j)]at aR;obtain⟨aV,aa,bJ,aS,_,aT⟩:=aR;have a8:=zZ a (i.spawns.take f) s;rw[dw]at a8;have bB:=aT.le;have bA:=m.2.2.2.1;refine(r.add a (M:=λq=>aV<=q/\q<aa) (aS.mono (λ_ g=>g) (by omega) (P1.lie2 aS)) (λq g=>ar q (by omega) (by omega)) (by omega) (by omega) (by have:=m.2.2.2.2.1;omega)).mono ?_;rintro e w' ⟨rfl,H⟩;obtain⟨d2,I,u⟩:=H.out;have aL:=u.1.size;refine⟨rfl,d2,?_,m.ad u λq g=>⟨by omega,by omega⟩,⟨z,by omega,?_,?_⟩,aa,by omega,aT.kept2 (c0:=aa) u.1 (λq aK bd g=>?_) (λ_ _ g=>g) (aj _) (aj _),λq bK bm=>?_⟩
  ·rw[aq (aH f j),l9];exact I
  ·rw[u.1.block q F (by rw[G];decide)];exact A
  ·rw[u.2.1 q F λg=>by omega];exact G
  ·have:=ar q (by omega) bd;omega
  ·have:=m.1.size;rw[u.2.1 q (by omega) λg=>by omega];exact ar q (by omega) bm
 ·obtain⟨d1,r,m,z,F,A,G⟩:=y;obtain⟨o,x,C⟩:=a5 h m.1 f j;refine⟨⟨o,x,C 0 _ rfl,C 1 _ rfl,C 2 _ rfl,C 3 _ rfl,C 4 _ rfl⟩,λbp am=>?_⟩;obtain⟨aW,aZ⟩:=bh _ (aG (af f j));have aQ:i.sends[f]?=some ((n f).1,cn _ (n f).2):=by rw[<-ap,dh,af f j];rfl
  refine((r.later am).send ⟨an,a0 _ (aG aQ)⟩ (n f).2 ((aZ.ug m).up (dH.later d1 am)) aW (by have:=m.2.2.2.2.2.1;omega) (by have:=m.2.2.2.2.1;omega)).mono ?_;rintro e w' ⟨rfl,H⟩;obtain⟨d2,I,u⟩:=H.out;have Y:=(dH.later d1 am).trans u;have aL:=Y.1.size;refine⟨rfl,d2,?_,(m.up Y).mono (by omega),z,by omega,?_,?_⟩
  ·rw[aq aQ,l9];exact I
  ·rw[Y.1.block q F (by rw[G];decide)];exact A
  ·rw[Y.2.1 q F];exact G
 ·obtain⟨d1,r,m,z,F,A,G⟩:=y;refine⟨a3 h m.1 f j,?_⟩;refine(r.link an (a1 _ (aG (ai f j))) (by have:=m.2.2.2.2.2.2;omega)).mono ?_;rintro e w' ⟨rfl,H⟩;obtain⟨d2,I,u⟩:=H.out;have aL:=u.1.size;refine⟨rfl,d2,?_,(m.up u).mono (by omega),z,by omega,?_,?_⟩
  ·rw[aq (ai f j),l9];exact I
  ·rw[u.1.block q F (by rw[G];decide)];exact A
  ·rw[u.2.1 q F];exact G
 ·obtain⟨d1,r,m,z,F,A,G⟩:=y;rw[bw (by omega),<-aP]at r;rw[bf];refine⟨λe=>?_,λe=>⟨d1,by rw[if_neg e];exact r,m.mono (by omega)⟩⟩;refine(r.fin an (by have:=m.2.2.2.2.1;omega)).mono ?_;rintro br w' ⟨rfl,H⟩;obtain⟨d2,I,u⟩:=H.out;exact⟨rfl,d2,by rw[if_pos e];exact I,(m.up u).mono (by omega)⟩
end
structure T8 where
 y0:Int
 y1:Int
 y2:ByteArray
 ya:Option Addr
 yl:Nat
 yc:Nat
 f:Int
 sa:Option Addr
 sl:Nat
 sc:Nat
 pa:Option Addr
 pl:Nat
 pc:Nat
 ka:Option Addr
 kl:Nat
 kc:Nat
theorem NU{w:World}{q:Nat}{g:Array Value}{T:TypeId}{fr:Nat×Nat}(h:w.heap[q]?=some (.cells g T fr))(j:g.size=8)(v0 v1 v2 v3 c d e f:Value):((((((((w.setCell ⟨q,0,none⟩ v0).setCell ⟨q,1,none⟩ v1).setCell ⟨q,2,none⟩ v2).setCell ⟨q,3,none⟩ v3).setCell ⟨q,4,none⟩ c).setCell ⟨q,5,none⟩ d).setCell ⟨q,6,none⟩ e).setCell ⟨q,7,none⟩ f).heap[q]?=some (.cells #[v0,v1,v2,v3,c,d,e,f] T fr)/\bk (λb=>b=q) w ((((((((w.setCell ⟨q,0,none⟩ v0).setCell ⟨q,1,none⟩ v1).setCell ⟨q,2,none⟩ v2).setCell ⟨q,3,none⟩ v3).setCell ⟨q,4,none⟩ c).setCell ⟨q,5,none⟩ d).setCell ⟨q,6,none⟩ e).setCell ⟨q,7,none⟩ f):=by
 refine⟨?_,(((((((bt w q 0 v0).trans (bt _ q 1 v1) λ_ _ a=>a).trans (bt _ q 2 v2) λ_ _ a=>a).trans (bt _ q 3 v3) λ_ _ a=>a).trans (bt _ q 4 c) λ_ _ a=>a).trans (bt _ q 5 d) λ_ _ a=>a).trans (bt _ q 6 e) λ_ _ a=>a).trans (bt _ q 7 f) λ_ _ a=>a⟩;obtain⟨l⟩:=g;have i:l.length=8:=by simpa using j
 match l,i with
 | [a0,a1,a2,a3,a4,a5,a6,a7],_=>simp[World.setCell,bG,h]
def My(e:T8->Int->World->World->Prop)(w:World)(q:Nat)(t:T8)(g:Int)(d:World):Prop:=
 ∃a c,ai w a/\e t g a c/\(w.heap.size<=q/\(q<a.heap.size\/c.heap.size<=q))/\d.heap[q]?=some (.cells #[ab t.y0,ab t.y1,ae t.y2,.slice t.ya t.yl t.yc,ab t.f,.slice t.sa t.sl t.sc,.slice t.pa t.pl t.pc,.slice t.ka t.kl t.kc] 112)/\bk (λb=>b=q) c d
theorem wX(g:Nat)(Z:Option Nat)(a S Y:Int)(N:Option Addr)(P O:Nat)(aa:Value)(F:Bool)(w:World)(E:T8->Int->World->World->Prop)(M:Nat->T8->World->Prop)(C:Nat->T8->Value->Bool->World->Prop)(R:Int->World->Prop)(aW:IntKind.i64.wrap (S+1)=Y)(a2:g<w.heap.size)(ad:Hid (w.cell? ⟨g,0,none⟩=some (.slice N P O)/\w.cell? ⟨g,2,none⟩=some (ab S)/\w.cell? ⟨g,3,none⟩=some (.map Z)))(ax:(Instr.lookup 62 (.map Z) (ab a) true).run Tryz.prog w=.ok (.tuple #[aa,.bool F]) w)(J:Hid (F=false->R 4 w))(L:Hid (F=true->∀W,ai w W->ak 43 #[aa,.slice N P O,ab a,ab Y] W λe w'=>∃(t:T8)(h:Int),e=.returned (.tuple #[.agg #[ab t.y0,ab t.y1,ae t.y2,.slice t.ya t.yl t.yc,ab t.f,.slice t.sa t.sl t.sc,.slice t.pa t.pl t.pc,.slice t.ka t.kl t.kc],ab h])/\Hid (E t h W w'/\(∀q,w.heap.size<=q->q<W.heap.size->w'.heap[q]?=W.heap[q]?)/\W.heap.size<=w'.heap.size/\(w'.cell? ⟨g,0,none⟩=some (.slice N P O)/\w'.cell? ⟨g,2,none⟩=some (ab S)))))(HB:Hid (∀q t h W,My E w q t h W->h≠0->R h W))(B:Hid (∀q t W,My E w q t 0 W->ak 44 #[.pointer (some ⟨g,0,none⟩),ae ⟨#[116,97,107,101]⟩,ab a,ab 0,.agg #[ab t.y0,ab t.y1,ae t.y2,.slice t.ya t.yl t.yc]] W λe w'=>e=.returned (.tuple #[])/\Hid (M q t w')))(x:Hid (∀q t W,M q t W->ak 45 #[.pointer (some ⟨g,0,none⟩),.slice t.pa t.pl t.pc] W λe w'=>∃v b,e=.returned (.tuple #[v,.bool b])/\Hid (C q t v b w')))(y:Hid (∀q t W,M q t W->W.heap[q]?=some (.cells #[ab t.y0,ab t.y1,ae t.y2,.slice t.ya t.yl t.yc,ab t.f,.slice t.sa t.sl t.sc,.slice t.pa t.pl t.pc,.slice t.ka t.kl t.kc] 112)))(z:Hid (∀q t v b W,C q t v b W->W.heap[q]?=some (.cells #[ab t.y0,ab t.y1,ae t.y2,.slice t.ya t.yl t.yc,ab t.f,.slice t.sa t.sl t.sc,.slice t.pa t.pl t.pc,.slice t.ka t.kl t.kc] 112)))(m:Hid (∀q t v b W,C q t v b W->(t.f=2\/t.f=3)->ak 46 #[.pointer (some ⟨g,0,none⟩),ab a,ab t.f] W λe w'=>e=.returned (.tuple #[])/\Hid (R 0 w')))(n:Hid (∀q t v W,C q t v false W->¬(t.f=2\/t.f=3)->ak 46 #[.pointer (some ⟨g,0,none⟩),ab a,ab 2] W λe w'=>e=.returned (.tuple #[])/\Hid (R 0 w')))(p:Hid (∀q t v W,C q t v true W->¬(t.f=2\/t.f=3)->ak 47 #[.pointer (some ⟨g,0,none⟩),ab a,.agg #[ab t.y0,ab t.y1,ae t.y2,.slice t.ya t.yl t.yc,ab t.f,.slice t.sa t.sl t.sc,.slice t.pa t.pl t.pc,.slice t.ka t.kl t.kc],v] W λe w'=>e=.returned (.tuple #[])/\Hid (R 0 w'))):ak 26 #[.pointer (some ⟨g,0,none⟩),ab a] w λe w'=>∃v,e=.returned (ab v)/\Hid (R v w'):=by
 obtain⟨an,ap,aq⟩:=ad.out;go_enter Tryz.func26,Tryz.ntmps26;go_upto_region 2 with fail;cases F
 ·have K:=ao (J.out rfl);clear L J HB B x y z m n p;go_wp2_with fail
  go_ret
  exact⟨4,rfl,K.out⟩
 have V:=ao (L.out rfl);clear L J ax aq;have H:Hid (ai w w.drew):=(am _ _).drew;have I:Hid (∀o,ai w (w.drew.alloc o)):=λo=>(am _ _).drew.alloc (aj _) o;have aX:¬(w.heap.size=g):=by omega
 have aY:¬(g=w.heap.size):=by omega
 go_upto_region 4 with fail;go_cut [7,8] (λay aA aC=>∃(q:Nat)(t:T8)(h:Int),ay=.pointer (some ⟨q,0,none⟩)/\aA=ab h/\Hid (My E w q t h aC))
 case first=>
  clear HB B x y z m n p
  go_region_with ((first
   | (go_at_call 43;refine(V.out _ (by first|exact H.out|exact I.out _)).mono ?_;rintro e c ⟨t,h,rfl,r⟩;have a1:g<c.heap.size:=(by have:=r.out.2.2.1;simp at this;omega);have aZ:¬(c.heap.size=g):=(by omega);have a0:¬(g=c.heap.size):=(by omega);obtain⟨a4,a5⟩:=r.out.2.2.2;(first|(have d:c.heap[w.heap.size]?=some (.cells #[ab 0,ab 0,ae ⟨#[]⟩,.slice none 0 0,ab 0,.slice none 0 0,.slice none 0 0,.slice none 0 0] 112):=((r.out.2.1 w.heap.size (aj _) (by simp)).trans (az w.drew _));obtain⟨a6,a7,a8,a9,ba,bb,bc,bd⟩:c.cell? ⟨w.heap.size,0,none⟩=some (ab 0)/\c.cell? ⟨w.heap.size,1,none⟩=some (ab 0)/\c.cell? ⟨w.heap.size,2,none⟩=some (ae ⟨#[]⟩)/\c.cell? ⟨w.heap.size,3,none⟩=some (.slice none 0 0)/\c.cell? ⟨w.heap.size,4,none⟩=some (ab 0)/\c.cell? ⟨w.heap.size,5,none⟩=some (.slice none 0 0)/\c.cell? ⟨w.heap.size,6,none⟩=some (.slice none 0 0)/\c.cell? ⟨w.heap.size,7,none⟩=some (.slice none 0 0):=⟨af d 0,af d 1,af d 2,af d 3,af d 4,af d 5,af d 6,af d 7⟩;have aF:c.frozen? ⟨w.heap.size,0,none⟩=false:=(by simp[World.frozen?,d]);have aG:c.frozen? ⟨w.heap.size,1,none⟩=false:=(by simp[World.frozen?,d]);have aH:c.frozen? ⟨w.heap.size,2,none⟩=false:=(by simp[World.frozen?,d]);have aI:c.frozen? ⟨w.heap.size,3,none⟩=false:=(by simp[World.frozen?,d]);have aJ:c.frozen? ⟨w.heap.size,4,none⟩=false:=(by simp[World.frozen?,d]);have aK:c.frozen? ⟨w.heap.size,5,none⟩=false:=(by simp[World.frozen?,d]);have aL:c.frozen? ⟨w.heap.size,6,none⟩=false:=(by simp[World.frozen?,d]);have aM:c.frozen? ⟨w.heap.size,7,none⟩=false:=(by simp[World.frozen?,d]);have al:=ao d;clear d)|skip))))
  all_goals (go_wp2_with fail;go_meet)
  all_goals (refine⟨_,t,h,rfl,rfl,?_⟩)
  all_goals (first
   | exact⟨_,c,H.out,r.out.1,⟨by have:=r.out.2.2.1;simpa using this,ah (aj _)⟩,az _ _,aD ((am _ _).alloc (aj _) _) _⟩
   | exact⟨_,c,I.out _,r.out.1,⟨aj _,ag (by simp)⟩,NU al.out rfl _ _ _ _ _ _ _ _⟩)
 case rest=>
 obtain⟨q,t,h,rfl,rfl,A⟩:=hcut;clear V H I an ap;by_cases Q:h=0;rotate_left
 ·have K:=ao (HB.out _ _ _ _ A.out Q);have a3:(h==0)=false:=by simpa using Q
  clear A HB B x y z m n p;go_wp2_with fail
  go_ret
  exact⟨h,rfl,K.out⟩
 subst Q;have X:=ao (B.out _ _ _ A.out);obtain⟨_,_,_,_,_,D,_⟩:=A.out;have ar:wc.cell? ⟨q,0,none⟩=some (ab t.y0):=af D 0;have d1:wc.cell? ⟨q,1,none⟩=some (ab t.y1):=af D 1;have au:wc.cell? ⟨q,2,none⟩=some (ae t.y2):=af D 2;have av:wc.cell? ⟨q,3,none⟩=some (.slice t.ya t.yl t.yc):=af D 3;clear D A HB B;go_wp2_with fail;refine X.out.mono ?_;rintro e aB ⟨rfl,G⟩;have U:=ao (x.out _ _ _ G.out);have aw:aB.cell? ⟨q,6,none⟩=some (.slice t.pa t.pl t.pc):=af (y.out _ _ _ G.out) 6;clear X x y G ar d1 au av;go_wp2_with fail;refine U.out.mono ?_;rintro e j ⟨v,b,rfl,k⟩;have i:=ao (z.out _ _ _ _ _ k.out);have aE:j.cell? ⟨q,4,none⟩=some (ab t.f):=af i.out 4;clear aw U z;by_cases u:t.f=2\/t.f=3
 ·have s:=ao (m.out _ _ _ _ _ k.out u);clear n p m k i;generalize t.f=f at*;rcases u with rfl|rfl
  ·go_wp2_with fail;refine s.out.mono ?_;rintro e T ⟨rfl,l⟩;go_wp2_with fail
   go_ret
   exact⟨0,rfl,l.out⟩
  ·go_wp2_with fail;refine s.out.mono ?_;rintro e T ⟨rfl,l⟩;go_wp2_with fail
   go_ret
   exact⟨0,rfl,l.out⟩
 have aU:(t.f==2)=false:=by simpa using λe=>u (ag e)
 have aV:(t.f==3)=false:=by simpa using λe=>u (ah e)
 cases b
 ·have s:=ao (n.out _ _ _ _ k.out u);clear n p m k i;go_wp2_with fail;refine s.out.mono ?_;rintro e T ⟨rfl,l⟩;go_wp2_with fail
  go_ret
  exact⟨0,rfl,l.out⟩
 ·have s:=ao (p.out _ _ _ _ k.out u);have aN:j.cell? ⟨q,0,none⟩=some (ab t.y0):=af i.out 0;have aO:j.cell? ⟨q,1,none⟩=some (ab t.y1):=af i.out 1;have aP:j.cell? ⟨q,2,none⟩=some (ae t.y2):=af i.out 2;have aQ:j.cell? ⟨q,3,none⟩=some (.slice t.ya t.yl t.yc):=af i.out 3;have aR:j.cell? ⟨q,5,none⟩=some (.slice t.sa t.sl t.sc):=af i.out 5;have aS:j.cell? ⟨q,6,none⟩=some (.slice t.pa t.pl t.pc):=af i.out 6;have aT:j.cell? ⟨q,7,none⟩=some (.slice t.ka t.kl t.kc):=af i.out 7;clear n p m k i;go_wp2_with fail;refine s.out.mono ?_;rintro e T ⟨rfl,l⟩;go_wp2_with fail
  go_ret
  exact⟨0,rfl,l.out⟩
end Go.Proofs.YtckamaoibonjcaaGreat
