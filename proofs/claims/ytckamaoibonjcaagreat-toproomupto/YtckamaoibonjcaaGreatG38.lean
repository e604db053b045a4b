/- What is proved here: plain facts and contracts that the claimed theorem stands on. No condition but those that each names. -/
import Derived.Test.YtckamaoibonjcaaGreatG37
import Derived.Deep.DeepCutAuto
namespace Go.Proofs.YtckamaoibonjcaaGreat
open Go.RowKit
set_option maxHeartbeats 4000000
set_option maxRecDepth 100000
theorem dC{g d:Type}{f:g->d->Bool}{p:List g}{b:d}{q:List d}(c:aC f p (b::q)=true):∃a e,p=a::e/\f a b=true/\aC f e q=true:=by
 cases p with
 | nil=>simp[aC]at c
 | cons a p=>
  simp only[aC,aA]at c;exact⟨a,p,rfl,c.1,c.2⟩
theorem lX{a b:Type}{f:a->b->Bool}{p:List a}(c:aC f p ([]:List b)=true):p=[]:=by
 cases p with
 | nil=>rfl
 | cons d p=>simp[aC]at c
theorem Js{n m:Nat}{x:Tm n}{y:Tm (m+1)}(a:ax n x (m+1) y=true):(gd n x).1=y.1:=(EB a).1
theorem nb{N n:Nat}{x:Tm (N+1)}{c:ByteArray}{ys:List (Tm (n+1))}(k:ax (N+1) x (n+2) (cX (n+1) (aY c n::ys))=true):eL N x=c/\aC (λa b=>ax N a (n+1) b) (bJ N x) ys=true:=by
 obtain⟨l,m⟩:=bD k;obtain⟨a,q,g,h,o⟩:=dC m;have d:x.1.1=4:=by rw[l];rfl
 have e:=Js h;have i:bO ⟨N,a⟩=2:=by
  cases N with
  | zero=>simp[ax]at h
  | succ N=>
   have:a.1.1=2:=by
    have j:a.1=(2,0,c):=e;rw[j]
   exact this
 have f:x.2.2[0]?=some a:=by rw[g];rfl
 have p:x.2.2.drop 1=q:=by rw[g];rfl
 constructor
 ·simp only[eL,d,cI,f,i];rw[e];rfl
 ·simp only[bJ,d,cI,f,i,p];exact o
theorem kI(a:ByteArray):sr a a=true:=by simp[sr]
theorem tg{o g:Type}{n:Nat}{f:Tm n->Option o}{R:Tm n->g->Prop}{Q:o->g->Prop}(j:∀y b,R y b->∃a,f y=some a/\Q a b):(q:List (Tm n))->(l:List g)->eA R q l->∃c,cE f q=some c/\eA Q c l
 | [],[],_=>⟨[],rfl,eA.nil⟩
 | [],_::_,h=>by have:=h.1;simp at this
 | _::_,[],h=>by have:=h.1;simp at this
 | y::q,b::l,h=>by
  obtain⟨a,p,k⟩:=j y b h.tail.1;obtain⟨c,r,m⟩:=tg j q l h.tail.2;refine⟨a::c,by simp[cE,p,r],by simp[m.1],λi s v d e=>?_⟩;cases i with
  | zero=>
   simp at d e;subst d e;exact k
  | succ i=>exact m.2 i s v (by simpa using d) (by simpa using e)
theorem lg{e:Type}{n m:Nat}(g:e->Tm m):(q:List (Tm n))->(l:List e)->aC (λa b=>ax n a m b) q (l.map g)=true->eA (λy b=>ax n y m (g b)=true) q l
 | [],[],_=>eA.nil
 | [],_::_,h=>by simp[aC]at h
 | _::_,[],h=>by simp[aC]at h
 | y::q,b::l,h=>by
  simp only[aK,aC,aA]at h;have ih:=lg g q l h.2;refine⟨by simp[ih.1],λi f v c d=>?_⟩;cases i with
  | zero=>
   simp at c d;subst c d;exact h.1
  | succ i=>exact ih.2 i f v (by simpa using c) (by simpa using d)
theorem jW{a s:ByteArray}(b:a.toList≠s.toList):sr a s=false:=by simpa [sr]using b
theorem M2(M N n:Nat)(a:Ac (n+1))(y:Tm N)(b:ax N y (n+2) (bY n a)=true):∃E,rR M N y=some E:=by
 cases N with
 | zero=>simp[ax]at b
 | succ N=>
 have i:l9.toList=[115,101,110,100]:=jS [115,101,110,100];have j:iJ.toList=[115,112,97,119,110]:=jS [115,112,97,119,110];have k:l7.toList=[108,105,110,107]:=jS [108,105,110,107];have l:lk.toList=[115,116,111,112]:=jS [115,116,111,112];unfold bY at b;split at b
 ·obtain⟨c,d⟩:=nb b;obtain⟨s,t,f,r,h⟩:=dC d;obtain⟨B,C,o,z,q⟩:=dC h;have p:=lX q;subst o p;simp only[rR,jy,c,f,kI];exact⟨_,rfl⟩
 split at b
 ·obtain⟨c,d⟩:=nb b;obtain⟨s,t,f,r,h⟩:=dC d;obtain⟨B,C,o,z,q⟩:=dC h;obtain⟨D,F,p,A,v⟩:=dC q;have g:=lX v;subst o p g;have w:bO ⟨N,s⟩=2:=by rw[j0 r];rfl
  have x:bO ⟨N,D⟩=5:=by rw[j0 A];rfl
  have e:sr iJ l9=false:=jW (by rw[i,j];decide);simp only[rR,jy,c,f,kI,e,Bool.false_and,eg];simp[yC,w,x]
 split at b
 ·obtain⟨c,d⟩:=nb b;obtain⟨s,t,f,r,h⟩:=dC d;have g:=lX h;subst g;have e:sr l7 l9=false:=jW (by rw[i,k];decide);have m:sr l7 iJ=false:=jW (by rw[j,k];decide);simp only[rR,jy,c,f,kI,e,m,Bool.false_and,eg];simp
 ·obtain⟨c,d⟩:=nb b;have g:=lX d;have e:sr lk l9=false:=jW (by rw[i,l];decide);have m:sr lk iJ=false:=jW (by rw[j,l];decide);have u:sr lk l7=false:=jW (by rw[k,l];decide);simp only[rR,jy,c,g,kI,e,m,u,Bool.false_and,eg];simp
theorem M4(M N n:Nat)(c:Cl (n+1))(y:Tm N)(g:ax N y (n+4) (dw n c)=true):∃e,yB M N y=some e:=by
 cases N with
 | zero=>simp[ax]at g
 | succ N=>
 obtain⟨o,p⟩:=nb g;obtain⟨B,G,i,D,q⟩:=dC p;obtain⟨C,H,j,E,r⟩:=dC q;obtain⟨a,I,k,d,s⟩:=dC r;obtain⟨t,J,l,F,u⟩:=dC s;have m:=lX u;subst j k l m;have v:bO ⟨N,a⟩=4:=by rw[j0 d];rfl
 cases N with
 | zero=>simp[ax]at d
 | succ N=>
 obtain⟨h,z,_⟩:=tg (f:=rR M N) (R:=λy b=>ax N y (n+2) (bY n b)=true) (Q:=λ_ _=>True) (λy b w=>by
  obtain⟨e,x⟩:=M2 M N n b y w
  exact⟨e,x,trivial⟩) a.2.2 c.2.2 (lg (bY n) _ _ (bD d).2)
 have A:cE (rR M (N+1-1)) (DS (N+1) a)=some h:=z;refine⟨((aO (M+1) (N+1) B,aO (M+1) (N+1) C,aO (M+1) (N+1) t),(none,0),h),?_⟩;show rS M (N+1) (eL (N+1) y) (bJ (N+1) y)=_;rw[o,i];unfold rS;rw[if_pos (by rw[kI];rfl)];show (if bO ⟨N+1,a⟩=4 then (cE (rR M (N+1-1)) (DS (N+1) a)).map _ else none)=_;rw[if_pos v,A];rfl
theorem M3(M N n:Nat)(b:Bh (n+1))(y:Tm N)(c:ax N y (n+5) (dF n b)=true):∃a,yA M N y=some a/\a.2.2.length=b.2.2.length:=by
 cases N with
 | zero=>simp[ax]at c
 | succ N=>
 obtain⟨g,h⟩:=nb c;obtain⟨d,q,e,p,i⟩:=dC h;have j:bO ⟨N,d⟩=2:=by rw[j0 p];rfl
 obtain⟨r,o,k⟩:=tg (f:=yB M N) (R:=λy b=>ax N y (n+4) (dw n b)=true) (Q:=λ_ _=>True) (λy b l=>by
  obtain⟨a,m⟩:=M4 M N n b y l
  exact⟨a,m,trivial⟩) q b.2.2 (lg (dw n) _ _ i)
 refine⟨(wm N d,(none,0),r),?_,k.1⟩;simp only[yA,sU,g,e,kI];simp[j,o]
theorem Jl(M N n:Nat)(q:N<=M+1)(l:List (Bh (n+1)))(e:jY (n+1) l=true)(x:Tm N)(r:az ⟨N,x⟩)(i:ax N x (n+6) (bW n l)=true):∃a,A2 M N x=some a/\jY (M+1) a=true/\a.length=l.length:=by
 cases N with
 | zero=>simp[ax]at i
 | succ N=>
 obtain⟨o,p⟩:=nb i;obtain⟨h,u,c⟩:=tg (f:=yA M N) (R:=λg b=>ax N g (n+5) (dF n b)=true) (Q:=λa b=>a.2.2.length=b.2.2.length) (λg b s=>M3 M N n b g s) (bJ N x) l (lg (dF n) _ _ p);have m:A2 M (N+1) x=some h:=by
  simp only[A2,o,kI];simpa using u
 refine⟨h,m,?_,c.1⟩;rw[(A3 M (N+1) q x r h m).2];simp only[jY,vv,aA,bU,b9]at e ⊢;refine⟨by rw[c.1];exact e.1.1,λa t=>?_⟩;obtain⟨d,j⟩:=cO t;have k:d<l.length:=by have:=(aR.1 j).1;rw[<-c.1];exact this
 have:=c.2 d a l[d] j (aH k);rw[this];exact(e.2 l[d] (jl k)).1.1.2
def Am(M:Nat)(o:Option (List (Bh (M+1)))):Int:=match o with|some l=>if jY (M+1) l=true then 0 else 5|none=>5
def Al(M n:Nat)(x:Tm n):Int:=if bu n x=0 then Am M (A2 M n x)else bu n x
def tf(M:Nat)(E:Int)(o:Option (List (Bh (M+1))))(w:World)(e:Ending)(w':World):Prop:=
 ∃(l:List (Bh (M+1)))(a:Option Addr)(c:Nat),e=.returned (.tuple #[ae a l.length c,ab E])/\Hid (aj w w'/\(l.length<=c/\c<=maxLen)/\gP (M+1) w'.heap.size w' a l/\sP (jC (M+1) (λb=>w.heap.size<=b)) (λb=>w.heap.size<=b) a l/\(¬E=0->l=[])/\(E=0->∃d,o=some d/\eA (xD (M+1)) l d))
theorem rH{M:Nat}{E:Int}{o:Option (List (Bh (M+1)))}{w w':World}(a:¬E=0)(c:aj w w'):tf M E o w (.returned (.tuple #[ae none 0 0,ab E])) w':=
 ⟨[],none,0,rfl,c,⟨ak _,aE _⟩,ah rfl,ah rfl,λ_=>rfl,λb=>(a b).elim⟩
theorem Fu(M:Nat)(k A:Int)(s:ByteArray)(a:Option Addr)(l c:Nat)(w:World)(g:Int)(o:Option (List (Bh (M+1))))(E:Int)(J:Hid (E=if g=0 then Am M o else g))(Q:Hid (∀w1,aj w w1->am 51 #[.agg #[ab k,ab A,af s,ae a l c]] w1 λe w'=>e=.returned (ab g)/\aj w1 w'))(H:Hid (g=0->∀w1,aj w w1->am 60 #[.agg #[ab k,ab A,af s,ae a l c]] w1 (tE M o w1))):am 35 #[.agg #[ab k,ab A,af s,ae a l c]] w (tf M E o w):=by
 go_enter Tryz.func35,Tryz.ntmps35;go_wp2_with fail;refine(Q.out _ aM).mono ?_;rintro e w1 ⟨rfl,L⟩;have q:Hid (aj w w1):=aM.trans (L.mono (by simp));have j:=ao (qt w _ _ _ _ _ L);clear L Q;by_cases z:g=0
 ·subst z;have S:=ao (H.out (by simp) w1 q.out);have X:w1.cell? ⟨w.heap.size,0,none⟩=some (ab k):=ar j.out 0;have Y:w1.cell? ⟨w.heap.size,1,none⟩=some (ab A):=ar j.out 1;have Z:w1.cell? ⟨w.heap.size,2,none⟩=some (af s):=ar j.out 2;have aa:w1.cell? ⟨w.heap.size,3,none⟩=some (ae a l c):=ar j.out 3;have al:w.heap.size<w1.heap.size:=(aD.1 j.out).1;have D:=ao (show E=Am M o by simpa using J.out);clear H J;go_wp2_with fail;refine S.out.mono ?_;rintro e B ⟨p,u,y,ai,rfl,i⟩;obtain⟨t,K⟩:∃t,p.length=t:=⟨_,rfl⟩;rw[K];have G:=ao K;have r:Hid (aj w B):=q.out.trans (i.out.1.mono q.out.size);clear K S X Y Z aa j;cases ai
  ·have h:Hid (E=5):=by
     show E=5;rw[D.out];have d:=i.out.2.1;cases o with
     | none=>rfl
     | some f=>cases d
   have W:Hid (tf M E o w (.returned (.tuple #[ae none 0 0,ab 5])) B):=by
    have d:=rH (M:=M) (E:=E) (o:=o) (by rw[h.out];omega) r.out;rw[h.out]at d;rw[h.out];exact d
   go_wp2_with fail;exact av (v:=.tuple #[ae none 0 0,ab 5]) (by simp[results,Tryz.results35,go_sem]) rfl W.out
  ·have F:Hid (∀m,aj B m->am 58 #[ae u t y] m λe w'=>e=.returned (.bool (jY (M+1) p))/\aj m w'):=λm T=>
     pe M p t G.out u y B.heap.size m (gP.below T i.out.2.2.2.1) (by have:=i.out.2.2.1;have:=G.out;unfold maxLen at*;omega) T.size
   obtain⟨b,x⟩:∃b,jY (M+1) p=b:=⟨_,rfl⟩;rw[x]at F;have R:=ao x;clear x;have I:Hid (∃f,o=some f/\eA (xD (M+1)) p f):=by
    have d:=i.out.2.1;cases o with
    | none=>cases d
    | some f=>exact⟨f,rfl,i.out.2.2.2.2.2 f rfl⟩
   cases b
   ·have h:Hid (E=5):=by
      show E=5;obtain⟨f,O,N⟩:=I.out;rw[D.out,O];show (if jY (M+1) f=true then (0:Int)else 5)=5;rw[<-Jc N,R.out];rfl
    go_wp2_with (go_at_call 58;refine(F.out _ (ap _ _)).mono ?_;rintro e m ⟨rfl,n⟩;have C:=ao (r.out.trans (n.mono r.out.size));clear n);refine av (v:=.tuple #[ae none 0 0,ab 5]) (by simp[results,Tryz.results35,go_sem]) rfl ?_;have d:=rH (M:=M) (E:=E) (o:=o) (by rw[h.out];omega) C.out;rw[h.out]at d;rw[h.out];exact d
   ·have U:Hid (E=0):=by
      show E=0;obtain⟨f,O,N⟩:=I.out;rw[D.out,O];show (if jY (M+1) f=true then (0:Int)else 5)=0;rw[<-Jc N,R.out];rfl
    go_wp2_with (go_at_call 58;refine(F.out _ (ap _ _)).mono ?_;rintro e m ⟨rfl,n⟩;have P:=ao n;have C:=ao (r.out.trans (n.mono r.out.size));clear n);refine av (v:=.tuple #[ae u t y,ab 0]) (by simp[results,Tryz.results35,go_sem]) rfl ?_;obtain⟨an,aq,ad,ag,ah,au⟩:=i.out;rw[U.out];exact⟨p,u,y,by rw[G.out],C.out,ad,(gP.below P.out ag).mono P.out.size,(cB (dN _) 2 (oW (M+1)) u).1 _ _ _ (λb x=>ay q.out.size x) ah,λd=>(d rfl).elim,λ_=>I.out⟩
 ·have ak:(g !=0)=true:=by simpa using z
  have V:Hid (E=g):=by
   show E=g;rw[J.out,if_neg z]
  clear H j;go_wp2_with fail;refine av (v:=.tuple #[ae none 0 0,ab g]) (by simp[results,Tryz.results35,go_sem]) rfl ?_;rw[V.out];exact rH z q.out
theorem Ao(M n:Nat)(g:n<=M+1)(x:Tm n)(B:Nat)(w:World)(c:In B w n x)(f:(aw n x).length<=2097152)(b:B<=w.heap.size):am 35 #[dj n x] w (tf M (Al M n x) (A2 M n x) w):=by
 cases n with
 | zero=>exact c.elim
 | succ n=>
 exact Fu M x.1.1 x.1.2.1 x.1.2.2 x.2.1.1 x.2.2.length x.2.1.2 w (bu (n+1) x) _ _ rfl (λd a=>dD (n+1) x B d (c.below (a.mono b)) (ay b a.size) f) (λe d a=>yM M (n+1) g x B d (c.below (a.mono b)) (aL.2 (bw.1 e).1) (ay b a.size))
theorem pB{n:Nat}{x:Tm n}(a:bu n x=0):az ⟨n,x⟩:=aL.2 (bw.1 a).1
theorem fE{n:Nat}{p:List (Bh (n+1))}(b:nt n p=0):jY (n+1) p=true/\bu (n+6) (bW n p)=0/\JL n p=bW n p:=by
 have a:=b;unfold nt at a;split at a
 ·rename_i c;exact⟨c,a,by unfold JL;rw[if_pos b]⟩
 ·omega
theorem Na{n:Nat}{p:List (Bh (n+1))}(a:jY (n+1) p=true)(k:bu (n+6) (bW n p)=0):nt n p=0:=by
 unfold nt;rw[if_pos a];exact k
theorem wO{M n:Nat}(i:n<=M+1){x:Tm n}(e:bu n x=0){a l:List (Bh (M+1))}(j:A2 M n x=some a)(f:eA (xD (M+1)) l a)(h:jY (M+1) a=true):jY (M+1) l=true/\nt M l=0/\ax (M+6) (JL M l) n x=true/\(aw (M+6) (bW M l)).length=(aw n x).length:=by
 have g:=A3 M n i x (pB e) a j;have c:jY (M+1) l=true:=(Jc f).trans h;have b:ax (M+6) (bW M l) n x=true:=bQ _ _ _ _ _ _ (Jd f) g.1;have d:nt M l=0:=Na c ((bM b).trans e);exact⟨c,d,by rw[(fE d).2.2];exact b,j8 _ _ _ _ b⟩
theorem GD{n:Nat}{p:List (Bh (n+1))}(i:nt n p=0){y:Tm (n+6)}(a:ax (n+6) y (n+6) (JL n p)=true):bu (n+6) y=0/\Al (n+5) (n+6) y=0/\∀e l,A2 (n+5) (n+6) y=some e->eA (xD (n+6)) l e->jY (n+6) l=true/\nt (n+5) l=0/\ax (n+11) (JL (n+5) l) (n+6) (JL n p)=true/\l.length=p.length/\(aw (n+11) (bW (n+5) l)).length=(aw (n+6) (bW n p)).length:=by
 obtain⟨j,k,f⟩:=fE i;rw[f]at a;have b:bu (n+6) y=0:=(bM a).trans k;obtain⟨e,d,h,m⟩:=Jl (n+5) (n+6) n (ak _) p j y (pB b) a;refine⟨b,?_,λt l c g=>?_⟩
 ·unfold Al;rw[if_pos b,d];unfold Am;simp only[h,cI]
 ·rw[d]at c;injection c with c;subst c;obtain⟨o,q,r,s⟩:=wO (ak _) b d g h;exact⟨o,q,by rw[f];exact bQ _ _ _ _ _ _ r a,g.1.trans m,by rw[s];exact j8 _ _ _ _ a⟩
def lE(lo:Nat)(room:Int)(K:Nat)(e:Nat->Prop)(B:Nat)(w:World):List (Int×ByteArray×Tc)->List Nat->Nat->Prop
 | [],[],c=>c<=B
 | x::l,b::bs,c=>∃a d,(c<=a/\a<=d)/\P1 lo b x.2.1 room x.2.2 [] K (λq=>a<=q/\q<d) w/\(∀q,a<=q->q<d->¬e q)/\lE lo room K e B w l bs d
 | _,_,_=>False
section
variable {lo K:Nat} {room:Int} {X:Nat->Prop} {B:Nat} {w:World}
theorem lE.le:{l:List (Int×ByteArray×Tc)}->{a:List Nat}->{c:Nat}->lE lo room K X B w l a c->c<=B
 | [],[],_,h=>h
 | [],_::_,_,h=>h.elim
 | _::_,[],_,h=>h.elim
 | _::_,_::_,_,⟨c1,c2,h1,_,_,h4⟩=>by have:=h4.le;omega
theorem lE.kept2{w':World}{S f:Nat->Prop}{e c0:Nat}(a:bq S w w')(j:∀q,c0<=q->q<B->S q->X q)(k:∀q,q<B->f q->X q)(i:B<=e):{l:List (Int×ByteArray×Tc)}->{g:List Nat}->{c:Nat}->c0<=c->lE lo room K X B w l g c->lE lo room K f e w' l g c
 | [],[],_,_,h=>ay h i
 | [],_::_,_,_,h=>h.elim
 | _::_,[],_,_,h=>h.elim
 | _::_,_::_,_,hc,⟨c1,c2,h1,h2,h3,h4⟩=>by
  have o:=h4.le;exact⟨c1,c2,h1,h2.kept (S:=S) ⟨a.os,a.tape,a.output,a.size,a.block⟩ λb q d=>h3 b q.1 q.2 (j b (by omega) (by omega) d),λq m n d=>h3 q m n (k q (by omega) d),h4.kept2 a j k i (by omega)⟩
theorem lE.kept{w':World}{S b:Nat->Prop}{a:Nat}(i:bq S w w')(g:∀q,q<B->S q->X q)(h:∀q,q<B->b q->X q)(f:B<=a){l:List (Int×ByteArray×Tc)}{d:List Nat}{c:Nat}(e:lE lo room K X B w l d c):lE lo room K b a w' l d c:=e.kept2 (c0:=0) i (λq _=>g q) h f (aE _)
theorem lE.snoc{a B2 e b:Nat}{x:Int×ByteArray×Tc}(g:B<=a)(d:a<=B2/\B2<=e)(i:P1 lo b x.2.1 room x.2.2 [] K (λq=>a<=q/\q<B2) w)(j:∀q,a<=q->q<B2->¬X q):{l:List (Int×ByteArray×Tc)}->{f:List Nat}->{c:Nat}->lE lo room K X B w l f c->lE lo room K X e w (l++ [x]) (f++ [b]) c
 | [],[],_,h=>⟨a,B2,⟨ay h g,d.1⟩,i,j,d.2⟩
 | [],_::_,_,h=>h.elim
 | _::_,[],_,h=>h.elim
 | _::_,_::_,_,⟨c1,c2,h1,h2,h3,h4⟩=>⟨c1,c2,h1,h2,h3,h4.snoc g d i j⟩
end
section
variable {p:lB} {s:Sy} {d:gu} {w:World}
theorem Lc{n:Nat}{x:Tm n}(room:Int)(nm:ByteArray)(b:bu n x=0):fT 13 (cn n x) room nm=fT n x room nm:=by
 have a:=fj b;unfold fT jx;rw[bM a,cw _ _ _ _ a,lh _ _ _ _ a]
theorem bi.made(z:bi p s d w){N ad:Nat}{pa:Option Addr}{pl pc:Nat}{t:List (Int×ByteArray×Tm (N+1))}(aC:w.ownsRow ad 159 6 (ae pa pl pc) pl (t.flatMap λg=>M7 g.1 g.2.1 g.2.2))(ax:t.length=pl)(Y:pl<=1000)(aD:∀g∈t,bu _ g.2.2=0/\In w.heap.size w _ g.2.2):am 45 #[aF p.b,ae pa pl pc] w λe w'=>∃v b,e=.returned (.tuple #[v,.bool b])/\Hid (aj w w'/\b=s.made p.n p.prog p.room (t.map λg=>(g.1,g.2.1,cn _ g.2.2))/\(b=true->∃m a c,v=ae a pl c/\m.length=pl/\w'.ownsRow w.heap.size 60 1 v pl (m.map zk)/\lE p.lo p.room (d.k+201) (λq=>v.ownBlock=some q) w'.heap.size w' (t.map λg=>(g.1,g.2.1,cn _ g.2.2)) m w.heap.size)):=by
 have az:jY (p.n+1) p.prog=true:=(fE z.pg.2.2.2.1).1;obtain⟨aS,O,af,_,aq⟩:=qN aC (by decide) λg=>rfl;injection af with ah aU aT;subst ah;have F:∀f,f<pl->t[f]?=some (t.getD f (0,⟨#[]⟩,((0,0,⟨#[]⟩),(none,0),[]))):=λf i=>by
  rw[mn,aH (by omega)];rfl
 generalize T:(λf=>t.getD f (0,⟨#[]⟩,((0,0,⟨#[]⟩),(none,0),[])))=h;have F:∀f,f<pl->t[f]?=some (h f):=λf i=>by rw[F f i,<-T]
 clear T;obtain⟨o,J⟩:∃o,o=t.map λg=>(g.1,g.2.1,cn _ g.2.2):=⟨_,rfl⟩;rw[<-J];have U:o.length=pl:=by rw[J,fI,ax]
 have K:∀f,f<pl->o[f]?=some ((h f).1,(h f).2.1,cn _ (h f).2.2):=λf i=>by rw[J,dr,F f i];rfl
 have W:∀f,f<pl->bu _ (h f).2.2=0/\In w.heap.size w _ (h f).2.2:=λf i=>aD _ (aG (F f i));have X:∀f,f<pl->fT 13 (cn _ (h f).2.2) p.room (h f).2.1=fT _ (h f).2.2 p.room (h f).2.1:=λf i=>Lc _ _ (W f i).1;have aE:∀f,f<pl->o.take (f+1)=o.take f++ [((h f).1,(h f).2.1,cn _ (h f).2.2)]:=λf i=>by
  rw[dz,K f i];rfl
 refine FK p.b pa pl pc (s.may pl) p.room w (λf=>(h f).1) (λf=>(h f).2.2.1.1) (λf=>(h f).2.2.1.2.1) (λf=>(h f).2.1) (λf=>(h f).2.2.1.2.2) (λf=>(h f).2.2.2.1.1) (λf=>(h f).2.2.2.2.length) (λf=>(h f).2.2.2.1.2) (λf=>kJ p.n p.prog (h f).2.1) (λf=>fT _ (h f).2.2 p.room (h f).2.1) (λf m v j=>lE p.lo p.room (d.k+201) (λq=>v.ownBlock=some q) j.heap.size j (o.take f) m w.heap.size/\∀q,v.ownBlock=some q->q<j.heap.size)
  (λf G m v j=>∃x,(w.heap.size<=x/\x<=j.heap.size)/\(lE p.lo p.room (d.k+201) (λq=>v.ownBlock=some q) x j (o.take f) m w.heap.size)/\(∀q,v.ownBlock=some q->q<x)/\P1 p.lo G (h f).2.1 p.room (cn _ (h f).2.2) [] (d.k+201) (λq=>x<=q/\q<j.heap.size) j) (λv b w'=>aj w w'/\b=s.made p.n p.prog p.room o/\(b=true->∃m a c,v=ae a pl c/\m.length=pl/\w'.ownsRow w.heap.size 60 1 v pl (m.map zk)/\lE p.lo p.room (d.k+201) (λq=>v.ownBlock=some q) w'.heap.size w' o m w.heap.size)) Y z.lo.2 z.cells.2.1 (λf i=>?_) (z.mayHave pl Y) (λf j i l=>(z.later l).knows _) (λf m v j i r l E=>?_) ?_ (λf m v j H E l=>?_) (λf G m a c D O j ab H B ap l A ar av=>?_) (λj l u=>?_) λj m a c l al Q an ao R=>?_
 ·obtain⟨D,I,P,y⟩:=aq f _ (F f i);exact⟨D,I,P,y 0 _ rfl,y 1 _ rfl,y 2 _ rfl,y 3 _ rfl,y 4 _ rfl,y 5 _ rfl⟩
 ·have aX:=CF az r;obtain⟨aK,aL⟩:=W f i;refine(P1.new _ (h f).2.2 p.room (h f).2.1 j (by omega) ((aL.below l).mono l.size) (eN aK)).mono ?_;rintro e w' ⟨q,rfl,aa⟩;obtain⟨L,aY,aM⟩:=aa.out;refine⟨q,rfl,L,λe=>?_⟩;obtain⟨G,I,P,y,ag⟩:=aM e;have:=z.lo.1;have:=l.size;refine⟨G,I,j.heap.size,⟨l.size,L.size⟩,E.1.kept (aI L λ_=>False) (λ_ _ g=>g.elim) (λ_ _ g=>g) (ak _),E.2,ag.mono (λb g=>g) (by omega) λb g=>⟨by omega,g.2⟩⟩
 ·exact⟨ak _,(λq g=>by cases g)⟩
 ·exact⟨E.1.kept (aI l λ_=>False) (λ_ _ g=>g.elim) (λ_ _ g=>g) l.size,λq g=>aN (E.2 q g) l.size⟩
 ·obtain⟨x,⟨aZ,a0⟩,aO,Z,aP⟩:=ap;have aw:bq (λq=>(Value.slice a f c).ownBlock=some q) ab H:=⟨A.os,A.tape,A.output,A.size,λk r ay=>A.block k r λe=>ay e.symm⟩;have r:bq (λq=>(Value.slice a f c).ownBlock=some q) j H:=(aI l _).trans aw λ_ _ e=>e;have aV:=l.size;have aW:=A.size;have V:∀q,q<j.heap.size->(Value.slice (some ⟨D,0,none⟩) (f+1) O).ownBlock=some q->(Value.slice a f c).ownBlock=some q:=λq aB g=>by
   obtain rfl:D=q:=au g;rcases ar with e|e
   ·exact e
   ·omega
  refine⟨?_,λq g=>?_⟩
  ·rw[aE f B];refine lE.snoc (ak x) (B2:=j.heap.size) (by omega) ?_ ?_ (aO.kept r (λq _ g=>g) (λq aB g=>V q (by omega) g) (ak _))
   ·exact aP.kept (S:=λq=>(Value.slice a f c).ownBlock=some q) ⟨r.os,r.tape,r.output,r.size,r.block⟩ λb g C=>by have:=Z b C;omega
   ·exact λq M C aQ=>by have:=Z q (V q C aQ);omega
  ·obtain rfl:D=q:=au g;exact av
 ·refine⟨l,?_,(λg=>by cases g)⟩;unfold Sy.made;rw[U];rcases u with u|⟨f,i,u⟩
  ·rw[u];rfl
  ·refine Eq.symm (Bool.and_eq_false_iff.2 (ai ?_));rw[List.all_eq_false];refine⟨_,aG (K f i),?_⟩;simp only[aA,cm,not_and];intro M C;rw[X f i]at C;rcases u with u|u
   ·rw[u]at M;cases M
   ·exact u C
 ·refine⟨l,?_,λ_=>⟨m,a,c,rfl,an,ao,?_⟩⟩
  ·unfold Sy.made;rw[U,al,eg,eq_comm,b9];intro a1 aJ;obtain⟨f,i⟩:=List.mem_iff_getElem?.1 aJ;have B:f<pl:=by have:=(aR.1 i).1;omega
   rw[K f B]at i;obtain rfl:=au i;simp only[aA,cm];exact⟨(Q f B).1,(X f B).trans (Q f B).2⟩
  ·rw[bC (by omega)]at R;exact R.1
end
theorem yN(x:Nat)(a O P:Int)(Q:ByteArray)(ma:Option Addr)(T S:Nat)(f:Int)(sa:Option Addr)(sl sc:Nat)(pa:Option Addr)(pl pc:Nat)(ka:Option Addr)(kl kc:Nat)(ar:Option Addr)(vl aC:Nat)(aa:Nat->Nat)(C D E:Nat->Int)(F:Nat->ByteArray)(xa:Nat->Option Addr)(G xc:Nat->Nat)(aq:Nat->Int)(w:World)(k o p:Nat->Nat->World->Prop)(R:World->Prop)(aM:vl<=1000)(aL:sl<=1000)(aK:kl<=1000)(X:Hid (∀q W,aj w W->w.heap.size<=q->W.heap[q]?=some (.cells #[ab O,ab P,af Q,ae ma T S,ab f,ae sa sl sc,ae pa pl pc,ae ka kl kc] 112)->k q 0 W))(H:Hid (∀q W,k q vl W->o q 0 W))(y:Hid (∀q W,o q sl W->p q 0 W))(i:Hid (∀q j W,(k q j W\/o q j W\/p q j W)->W.heap[q]?=some (.cells #[ab O,ab P,af Q,ae ma T S,ab f,ae sa sl sc,ae pa pl pc,ae ka kl kc] 112)))(I:Hid (∀q j W,j<vl->k q j W->(∃g,ar=some ⟨g,0,none⟩/\W.cell? ⟨g,j,none⟩=some (.pointer (some ⟨aa j,0,none⟩)))/\Hid (am 40 #[aF x,ab a,.pointer (some ⟨aa j,0,none⟩)] W λe w'=>e=.returned (.tuple #[])/\Hid (k q (j+1) w'))))(z:Hid (∀q j W,j<sl->o q j W->(∃g,sa=some ⟨g,0,none⟩/\W.cell? ⟨g,j*5,none⟩=some (ab (C j))/\W.cell? ⟨g,j*5+1,none⟩=some (ab (D j))/\W.cell? ⟨g,j*5+2,none⟩=some (ab (E j))/\W.cell? ⟨g,j*5+3,none⟩=some (af (F j))/\W.cell? ⟨g,j*5+4,none⟩=some (ae (xa j) (G j) (xc j)))/\Hid (∀Z,aj W Z->am 75 #[aF x,ab a,ab (C j),.agg #[ab (D j),ab (E j),af (F j),ae (xa j) (G j) (xc j)]] Z λe w'=>e=.returned (.tuple #[])/\Hid (o q (j+1) w'))))(t:Hid (∀q j W,j<kl->p q j W->(∃g,ka=some ⟨g,0,none⟩/\W.cell? ⟨g,j,none⟩=some (ab (aq j)))/\Hid (am 76 #[aF x,ab a,ab (aq j)] W λe w'=>e=.returned (.tuple #[])/\Hid (p q (j+1) w'))))(s:Hid (∀q W,p q kl W->(f=1->am 46 #[aF x,ab a,ab 1] W λe w'=>e=.returned (.tuple #[])/\Hid (R w'))/\(f≠1->R W))):am 47 #[aF x,ab a,.agg #[ab O,ab P,af Q,ae ma T S,ab f,ae sa sl sc,ae pa pl pc,ae ka kl kc],ae ar vl aC] w λe w'=>e=.returned (.tuple #[])/\Hid (R w'):=by
 go_enter Tryz.func47,Tryz.ntmps47;go_upto_region 1 with fail;generalize m:w.alloc _=au;obtain⟨q,B⟩:∃q,q=w.heap.size:=⟨_,rfl⟩;rw[<-B];have V:Hid (k q 0 au):=X.out q au (by rw[<-m];exact(ap _ _).alloc (ak _) _) (dt B.symm) (by rw[<-m,B];exact aB _ _);clear m B X;go_wp2_with fail;go_loopw [9,16] (λ_ c wr=>∃(j:Nat),j<=vl/\c=ab j/\Hid (k q j wr)) (λ_ c _=>vl-(intOf c).toNat)
 case atStart=>exact⟨0,aE _,rfl,V.out⟩
 case round=>
 obtain⟨j,A,rfl,b⟩:=hrel;by_cases l:j<vl
 ·obtain⟨⟨g,rfl,M⟩,n⟩:=I.out q j wr l b.out;have al:(0:Int)<=(j:Int):=by omega
  have an:(j:Int)<(vl:Int):=by omega
  clear H y i I z t s b;go_wp2_with fail;refine n.out.mono ?_;rintro e d ⟨rfl,h⟩;go_wp2_with fail;go_roundw
  case rel=>exact⟨j+1,by omega,by go_num,h.out⟩
  case measure=>simp[intOf];omega
 obtain rfl:j=vl:=by omega
 have K:=ao (H.out _ _ b.out);clear b I H V A l;have az:wr.cell? ⟨q,5,none⟩=some (ae sa sl sc):=ag (i.out q 0 wr (ai (ah K.out))) 5;go_wp2_with fail;clear az;go_loopw [11,28] (λ_ c U=>∃(j:Nat),j<=sl/\c=ab j/\Hid (o q j U)) (λ_ c _=>sl-(intOf c).toNat)
 case atStart=>exact⟨0,aE _,rfl,K.out⟩
 case round=>
 clear K;obtain⟨j,A,rfl,b⟩:=hrel;by_cases l:j<sl
 ·obtain⟨⟨g,rfl,M,aw,ax,ay,ad⟩,n⟩:=z.out q j _ l b.out;have al:(0:Int)<=(j:Int):=by omega
  have an:(j:Int)<(sl:Int):=by omega
  clear y i z t s b;go_upto_region 9 with fail;generalize m:World.alloc _ _=d;have r:d.heap[wr.heap.size]?=some (.cells #[ab (C j),ab (D j),ab (E j),af (F j),ae (xa j) (G j) (xc j)] 162):=by
   rw[<-m];exact aB _ _
  have av:=ao (n.out d (by rw[<-m];exact(ap _ _).alloc (ak _) _));generalize wr.heap.size=u at*;have aD:d.cell? ⟨u,0,none⟩=some (ab (C j)):=ag r 0;have d1:d.cell? ⟨u,1,none⟩=some (ab (D j)):=ag r 1;have aG:d.cell? ⟨u,2,none⟩=some (ab (E j)):=ag r 2;have aH:d.cell? ⟨u,3,none⟩=some (af (F j)):=ag r 3;have aI:d.cell? ⟨u,4,none⟩=some (ae (xa j) (G j) (xc j)):=ag r 4;clear m r n M aw ax ay ad;go_wp2_with fail;refine av.out.mono ?_;rintro e aN ⟨rfl,h⟩;go_wp2_with fail;go_roundw
  case rel=>exact⟨j+1,by omega,by go_num,h.out⟩
  case measure=>simp[intOf];omega
 obtain rfl:j=sl:=by omega
 have L:=ao (y.out _ _ b.out);clear b z y A l;have aA:wr.cell? ⟨q,7,none⟩=some (ae ka kl kc):=ag (i.out q 0 wr (ai (ai L.out))) 7;go_wp2_with fail;clear aA;go_loopw [13,43] (λ_ c U=>∃(j:Nat),j<=kl/\c=ab j/\Hid (p q j U)) (λ_ c _=>kl-(intOf c).toNat)
 case atStart=>exact⟨0,aE _,rfl,L.out⟩
 case round=>
 clear L;obtain⟨j,A,rfl,b⟩:=hrel;by_cases l:j<kl
 ·obtain⟨⟨g,rfl,M⟩,n⟩:=t.out q j _ l b.out;have al:(0:Int)<=(j:Int):=by omega
  have an:(j:Int)<(kl:Int):=by omega
  clear i t s b;go_wp2_with fail;refine n.out.mono ?_;rintro e d ⟨rfl,h⟩;go_wp2_with fail;go_roundw
  case rel=>exact⟨j+1,by omega,by go_num,h.out⟩
  case measure=>simp[intOf];omega
 obtain rfl:j=kl:=by omega
 have ad:wr.cell? ⟨q,4,none⟩=some (ab f):=ag (i.out q _ wr (ai (ai b.out))) 4;have Y:=ao (s.out q _ b.out);clear b t i s;by_cases N:f=1
 ·subst N;have J:=ao (Y.out.1 rfl);go_wp2_with fail;refine J.out.mono ?_;rintro e d ⟨rfl,h⟩;go_wp2_with fail;exact dR (v:=.tuple #[]) (by simp[results]) rfl ⟨rfl,h.out⟩
 ·have J:=ao (Y.out.2 N);have aJ:(f==1)=false:=by simpa using N
  go_wp2_with fail;exact dR (v:=.tuple #[]) (by simp[results]) rfl ⟨rfl,J.out⟩
def py(M:Nat->Prop)(a:Nat)(d b:gu)(w w':World):Prop:=bq (λq=>d.ow q<0) w w'/\(∀q,q<w.heap.size->¬M q->b.ow q=d.ow q)/\(∀q,q<w.heap.size->M q->0<=b.ow q)/\b.k=d.k/\b.es.length<=d.es.length+a/\b.wn<=d.wn+a/\b.bn<=d.bn+a
section
variable {p:lB} {s:Sy} {d d1 d2:gu} {w w1 w2:World} {M:Nat->Prop} {a b:Nat}
theorem py.up(m:py M a d d1 w w1)(k:dL b d1 d2 w1 w2):py M (a+b) d d2 w w2:=by
 obtain⟨h,i,j,n,q,r,s⟩:=m;obtain⟨o,l,p,u,v,x⟩:=k;have t:=h.size;refine⟨h.trans o λc e g=>?_,λc e f=>(l c (by omega)).trans (i c e f),λc e f=>by rw[l c (by omega)];exact j c e f,p.trans n,by omega,by omega,by omega⟩;by_cases f:M c
 ·have:=j c e f;omega
 ·rw[i c e f]at g;exact g
theorem py.ad{M':Nat->Prop}(m:py M a d d1 w w1)(k:My M' b d1 d2 w1 w2)(o:∀q,M' q->M q):py M (a+b) d d2 w w2:=by
 obtain⟨h,i,j,n,t,u,v⟩:=m;obtain⟨p,l,r,s,y,z,A⟩:=k;have x:=h.size;refine⟨h.trans p λq e g=>?_,λq e c=>(l q (by omega) λf=>c (o q f)).trans (i q e c),λq e c=>?_,s.trans n,by omega,by omega,by omega⟩
 ·by_cases c:M q
  ·have:=j q e c;omega
  ·rw[i q e c]at g;exact g
 ·by_cases f:M' q
  ·have:=r q f;omega
  ·rw[l q (by omega) f];exact j q e c
theorem py.mono(c:py M a d d1 w w1)(l:a<=b):py M b d d1 w w1:=by
 obtain⟨e,f,g,h,i,j,k⟩:=c;exact⟨e,f,g,h,by omega,by omega,by omega⟩
theorem EJ.ug{m:Nat}{x:Tm m}(e:EJ d w x)(k:py M a d d1 w w1):EJ d1 w1 x:=by
 have g:=eP k.1 (D:=λb=>0<=d.ow b/\b<w.heap.size) (λb c f=>by omega) ⟨e.1,In.offB e.2 e.1⟩;refine⟨g.1,g.2.mono λb c=>?_⟩;by_cases f:M b
 ·exact k.2.2.1 b c.2 f
 ·rw[k.2.1 b c.2 f];exact c.1
theorem Ag(a:Int):(l:List (Int×ByteArray×Tc))->(s:Sy)->(l.foldl (λs x=>s.add a x.2.1 x.2.2) s).ps.length=s.ps.length+l.length/\(l.foldl (λs x=>s.add a x.2.1 x.2.2) s).last=s.last+l.length
 | [],s=>by simp
 | x::l,s=>by
  have b:=Ag a l (s.add a x.2.1 x.2.2);rw[fH,b.1,b.2];simp only[Sy.add,Sy.tell,bj,aZ,iP];omega
theorem bi.follow(aC:bi p s d w){a:Int}(ao:dn a)(i:Tk)(a7:zn 8 i.sends i.spawns i.links)(y0 y1:Int)(y2:ByteArray)(ya:Option Addr)(yl yc:Nat){N az aW c B:Nat}{sa:Option Addr}{sl sc:Nat}{pa:Option Addr}{pl pc:Nat}{ka:Option Addr}{kl kc:Nat}{L:Option Addr}{vl R:Nat}{K:List (Int×Tm (N+1))}{J:List Nat}{ay:Nat->Prop}(bh:w.ownsRow az 162 5 (ae sa sl sc) sl (K.flatMap λg=>L9 g.1 g.2))(a9:w.ownsRow az 3 1 (ae ka kl kc) kl (i.links.map λX=>ab X))(bk:w.ownsRow aW 60 1 (ae L vl R) vl (J.map zk))(ba:K.length=sl/\i.links.length=kl/\J.length=vl/\i.spawns.length=vl)(aq:K.map (λg=>(g.1,cn _ g.2))=i.sends)(bj:∀g∈K,bu _ g.2=0/\EJ d w g.2)(bc:∀q,((Value.slice sa sl sc).ownBlock=some q\/(Value.slice ka kl kc).ownBlock=some q\/(Value.slice L vl R).ownBlock=some q)->0<=d.ow q)(a4:lE p.lo p.room (d.k+201) ay B w i.spawns J c)(bw:B<=w.heap.size)(how:∀q,c<=q->q<B->d.ow q=0)(bb:s.may vl=true)(bA:d.k<=47000)(bx:d.es.length<=97000)(bG:d.wn<=900000)(bz:d.bn<=900000):am 47 #[aF p.b,ab a,Nr y0 y1 y2 ya yl yc i.fate sa sl sc pa pl pc ka kl kc,ae L vl R] w λe w'=>e=.returned (.tuple #[])/\Hid (∃O,bi p (s.follow a i) O w'/\py (λq=>c<=q/\q<B) 200 d O w w'):=by
 obtain⟨bl,bH,bI,bJ⟩:=ba;obtain⟨⟨aB,bt,bv⟩,a0,a1⟩:=a7;have bE:=IV bb;have bF:sl<=8:=by rw[<-bl];rw[<-aq,fI]at aB;exact aB
 have T:∀{D:Type}(l:List D)(g:D)(f:Nat),f<l.length->l[f]?=some (l.getD f g):=λl g f j=>by
  rw[mn,aH j];rfl
 obtain⟨n,ag⟩:∃n:Nat->Int×Tm (N+1),∀f,f<sl->K[f]?=some (n f):=⟨_,λf j=>T K (0,((0,0,⟨#[]⟩),(none,0),[])) f (by omega)⟩;obtain⟨ax,aj⟩:∃n:Nat->Int,∀f,f<kl->i.links[f]?=some (n f):=⟨_,λf j=>T i.links 0 f (by omega)⟩;obtain⟨av,aE⟩:∃n:Nat->Nat,∀f,f<vl->J[f]?=some (n f):=⟨_,λf j=>T J 0 f (by omega)⟩;obtain⟨bp,aJ⟩:∃n:Nat->Int×ByteArray×Tc,∀f,f<vl->i.spawns[f]?=some (n f):=⟨_,λf j=>T i.spawns (0,⟨#[]⟩,vp) f (by omega)⟩;have ap:∀q,((Value.slice sa sl sc).ownBlock=some q\/(Value.slice ka kl kc).ownBlock=some q\/(Value.slice L vl R).ownBlock=some q)->¬d.ow q<0:=λq g=>by have:=bc q g;omega
 have a5:∀h,bq (λq=>d.ow q<0) w h->∀f,f<sl->∃o,sa=some ⟨o,0,none⟩/\∀(t:Nat)(X:Value),(L9 (n f).1 (n f).2)[t]?=some X->h.cell? ⟨o,f*5+t,none⟩=some X:=λh P f j=>by
  obtain⟨_,_,x,_,C⟩:=qN (bf bh P λq g=>ap q (ah g)) (by decide) λg=>rfl;injection x with x;subst x;obtain⟨o,z,_,A⟩:=C f _ (ag f j);exact⟨o,z,A⟩
 have a3:∀h,bq (λq=>d.ow q<0) w h->∀f,f<kl->∃o,ka=some ⟨o,0,none⟩/\h.cell? ⟨o,f,none⟩=some (ab (ax f)):=λh P f j=>by
  have Q:=bf a9 P λq g=>ap q (ai (ah g));rw[List.map_eq_flatMap]at Q;obtain⟨_,_,x,_,C⟩:=qN Q (by decide) λg=>rfl;injection x with x;subst x;obtain⟨o,z,_,A⟩:=C f _ (aj f j);have:=A 0 _ rfl;simp only[Nat.mul_one,iR]at this;exact⟨o,z,this⟩
 have a6:∀h,bq (λq=>d.ow q<0) w h->∀f,f<vl->∃o,L=some ⟨o,0,none⟩/\h.cell? ⟨o,f,none⟩=some (.pointer (some ⟨av f,0,none⟩)):=λh P f j=>by
  have Q:=bf bk P λq g=>ap q (ai (ai g));rw[List.map_eq_flatMap]at Q;obtain⟨_,_,x,_,C⟩:=qN Q (by decide) λg=>rfl;injection x with x;subst x;obtain⟨o,z,_,A⟩:=C f _ (aE f j);have:=A 0 _ rfl;simp only[Nat.mul_one,iR]at this;exact⟨o,z,this⟩
 have aL:∀{D:Type}{l:List D}{f:Nat}{g:D},l[f]?=some g->l.drop f=g::l.drop (f+1):=λ{D l f g} e=>by
  obtain⟨a2,rfl⟩:=aR.1 e;exact eV a2
 have ar:∀{D:Type}{l:List D}{f:Nat}{g:D},l[f]?=some g->l.take (f+1)=l.take f++ [g]:=λ{D l f g} e=>by
  rw[dz,e];rfl
 obtain⟨U,aO⟩:∃U,U=i.spawns.foldl (λs v=>s.add a v.2.1 v.2.2) s:=⟨_,rfl⟩;obtain⟨V,aP⟩:∃V,V=i.sends.foldl (λs v=>s.send a v.1 v.2) U:=⟨_,rfl⟩;obtain⟨W,aQ⟩:∃W,W=i.links.foldl (λs v=>s.link a v) V:=⟨_,rfl⟩;have bg:s.follow a i=if i.fate=1 then W.fin a 1 else W:=by rw[aQ,aP,aO];rfl
 let aA:Obj:=.cells #[ab y0,ab y1,af y2,ae ya yl yc,ab i.fate,ae sa sl sc,ae pa pl pc,ae ka kl kc] 112;let Z:Nat->Prop:=λq=>c<=q/\q<B;let aw:Sy->Nat->Nat->World->Prop:=λbm k q h=>∃d1,bi p bm d1 h/\py Z k d d1 w h/\(w.heap.size<=q/\q<h.heap.size/\h.heap[q]?=some aA/\d1.ow q=0)
 refine yN p.b a y0 y1 y2 ya yl yc i.fate sa sl sc pa pl pc ka kl kc L vl R av (λf=>(n f).1) (λf=>(n f).2.1.1) (λf=>(n f).2.1.2.1) (λf=>(n f).2.1.2.2) (λf=>(n f).2.2.1.1) (λf=>(n f).2.2.2.length) (λf=>(n f).2.2.1.2) ax w
  (λq f h=>∃d1,bi p ((i.spawns.take f).foldl (λs v=>s.add a v.2.1 v.2.2) s) d1 h/\py Z f d d1 w h/\(w.heap.size<=q/\q<h.heap.size/\h.heap[q]?=some aA/\d1.ow q=0)/\∃S,c<=S/\lE p.lo p.room (d.k+201) ay B h (i.spawns.drop f) (J.drop f) S/\∀q,S<=q->q<B->d1.ow q=0)
  (λq f h=>aw ((i.sends.take f).foldl (λs v=>s.send a v.1 v.2) U) (vl+2*f) q h) (λq f h=>aw ((i.links.take f).foldl (λs v=>s.link a v) V) (vl+2*sl+f) q h) (λw'=>∃O,bi p (s.follow a i) O w'/\py Z 200 d O w w') (by omega) (by omega) (by omega) (λq h al aM aK=>?_) (λq h y=>?_) (λq h y=>?_) (λq f h y=>?_) (λq f h j y=>?_) (λq f h j y=>?_) (λq f h j y=>?_) λq h y=>?_
 ·have be:=(aD.1 aK).1;refine⟨d,aC.later al,⟨aI al _,λ_ _ _=>rfl,λq _ g=>by rw[how q g.1 g.2];exact iN 0,rfl,ak _,ak _,ak _⟩,⟨aM,be,aK,?_⟩,c,ak _,a4.kept (aI al λ_=>False) (λ_ _ g=>g.elim) (λ_ _ g=>g) (ak _),how⟩;by_cases g:d.ow q=0
  ·exact g
  ·have:=(aC.low q g).2;omega
 ·obtain⟨d1,r,m,E,_⟩:=y;rw[bC (by omega),<-aO]at r;exact⟨d1,r,m,E⟩
 ·obtain⟨d1,r,m,E⟩:=y;rw[bC (by rw[<-aq,fI];omega),<-aP]at r;exact⟨d1,r,m,E⟩
 ·rcases y with⟨d1,_,_,E,_⟩|⟨d1,_,_,E⟩|⟨d1,_,_,E⟩
  ·exact E.2.2.1
  ·exact E.2.2.1
  ·exact E.2.2.1
 ·obtain⟨d1,r,m,⟨z,F,A,G⟩,S,bK,aT,au⟩:=y;refine⟨a6 h m.1 f j,?_⟩;rw[aL (aJ f j),aL (aE f j)]at aT;obtain⟨aX,aa,bL,aU,_,aV⟩:=aT;have a8:=Ag a (i.spawns.take f) s;rw[dy]at a8;have bD:=aV.le;have bB:=m.2.2.2.1;refine(r.add a (M:=λq=>aX<=q/\q<aa) (aU.mono (λ_ g=>g) (by omega) (P1.lie2 aU)) (λq g=>au q (by omega) (by omega)) (by omega) (by omega) (by have:=m.2.2.2.2.1;omega)).mono ?_;rintro e w' ⟨rfl,H⟩;obtain⟨d2,I,u⟩:=H.out;have aN:=u.1.size;refine⟨rfl,d2,?_,m.ad u λq g=>⟨by omega,by omega⟩,⟨z,by omega,?_,?_⟩,aa,by omega,aV.kept2 (c0:=aa) u.1 (λq aM bd g=>?_) (λ_ _ g=>g) (ak _) (ak _),λq bM bo=>?_⟩
  ·rw[ar (aJ f j),mm];exact I
  ·rw[u.1.block q F (by rw[G];decide)];exact A
  ·rw[u.2.1 q F λg=>by omega];exact G
  ·have:=au q (by omega) bd;omega
  ·have:=m.1.size;rw[u.2.1 q (by omega) λg=>by omega];exact au q (by omega) bo
 ·obtain⟨d1,r,m,z,F,A,G⟩:=y;obtain⟨o,x,C⟩:=a5 h m.1 f j;refine⟨⟨o,x,C 0 _ rfl,C 1 _ rfl,C 2 _ rfl,C 3 _ rfl,C 4 _ rfl⟩,λbr an=>?_⟩;obtain⟨aY,aZ⟩:=bj _ (aG (ag f j));have aS:i.sends[f]?=some ((n f).1,cn _ (n f).2):=by rw[<-aq,dr,ag f j];rfl
  refine((r.later an).send ⟨ao,a0 _ (aG aS)⟩ (n f).2 ((aZ.ug m).up (dL.later d1 an)) aY (by have:=m.2.2.2.2.2.1;omega) (by have:=m.2.2.2.2.1;omega)).mono ?_;rintro e w' ⟨rfl,H⟩;obtain⟨d2,I,u⟩:=H.out;have Y:=(dL.later d1 an).trans u;have aN:=Y.1.size;refine⟨rfl,d2,?_,(m.up Y).mono (by omega),z,by omega,?_,?_⟩
  ·rw[ar aS,mm];exact I
  ·rw[Y.1.block q F (by rw[G];decide)];exact A
  ·rw[Y.2.1 q F];exact G
 ·obtain⟨d1,r,m,z,F,A,G⟩:=y;refine⟨a3 h m.1 f j,?_⟩;refine(r.link ao (a1 _ (aG (aj f j))) (by have:=m.2.2.2.2.2.2;omega)).mono ?_;rintro e w' ⟨rfl,H⟩;obtain⟨d2,I,u⟩:=H.out;have aN:=u.1.size;refine⟨rfl,d2,?_,(m.up u).mono (by omega),z,by omega,?_,?_⟩
  ·rw[ar (aj f j),mm];exact I
  ·rw[u.1.block q F (by rw[G];decide)];exact A
  ·rw[u.2.1 q F];exact G
 ·obtain⟨d1,r,m,z,F,A,G⟩:=y;rw[bC (by omega),<-aQ]at r;rw[bg];refine⟨λe=>?_,λe=>⟨d1,by rw[if_neg e];exact r,m.mono (by omega)⟩⟩;refine(r.fin ao (by have:=m.2.2.2.2.1;omega)).mono ?_;rintro bs w' ⟨rfl,H⟩;obtain⟨d2,I,u⟩:=H.out;exact⟨rfl,d2,by rw[if_pos e];exact I,(m.up u).mono (by omega)⟩
end
structure T8 where
 y0:Int
 y1:Int
 y2:ByteArray
 ya:Option Addr
 yl:Nat
 yc:Nat
 f:Int
 sa:Option Addr
 sl:Nat
 sc:Nat
 pa:Option Addr
 pl:Nat
 pc:Nat
 ka:Option Addr
 kl:Nat
 kc:Nat
theorem NS{w:World}{q:Nat}{g:Array Value}{T:TypeId}{fr:Nat×Nat}(h:w.heap[q]?=some (.cells g T fr))(j:g.size=8)(v0 v1 v2 v3 c d e f:Value):((((((((w.setCell ⟨q,0,none⟩ v0).setCell ⟨q,1,none⟩ v1).setCell ⟨q,2,none⟩ v2).setCell ⟨q,3,none⟩ v3).setCell ⟨q,4,none⟩ c).setCell ⟨q,5,none⟩ d).setCell ⟨q,6,none⟩ e).setCell ⟨q,7,none⟩ f).heap[q]?=some (.cells #[v0,v1,v2,v3,c,d,e,f] T fr)/\bq (λb=>b=q) w ((((((((w.setCell ⟨q,0,none⟩ v0).setCell ⟨q,1,none⟩ v1).setCell ⟨q,2,none⟩ v2).setCell ⟨q,3,none⟩ v3).setCell ⟨q,4,none⟩ c).setCell ⟨q,5,none⟩ d).setCell ⟨q,6,none⟩ e).setCell ⟨q,7,none⟩ f):=by
 refine⟨?_,(((((((bz w q 0 v0).trans (bz _ q 1 v1) λ_ _ a=>a).trans (bz _ q 2 v2) λ_ _ a=>a).trans (bz _ q 3 v3) λ_ _ a=>a).trans (bz _ q 4 c) λ_ _ a=>a).trans (bz _ q 5 d) λ_ _ a=>a).trans (bz _ q 6 e) λ_ _ a=>a).trans (bz _ q 7 f) λ_ _ a=>a⟩;obtain⟨l⟩:=g;have i:l.length=8:=by simpa using j
 match l,i with
 | [a0,a1,a2,a3,a4,a5,a6,a7],_=>simp[World.setCell,bG,h]
def Mw(e:T8->Int->World->World->Prop)(w:World)(q:Nat)(t:T8)(g:Int)(d:World):Prop:=
 ∃a c,aj w a/\e t g a c/\(w.heap.size<=q/\(q<a.heap.size\/c.heap.size<=q))/\d.heap[q]?=some (.cells #[ab t.y0,ab t.y1,af t.y2,ae t.ya t.yl t.yc,ab t.f,ae t.sa t.sl t.sc,ae t.pa t.pl t.pc,ae t.ka t.kl t.kc] 112)/\bq (λb=>b=q) c d
theorem xb(g:Nat)(Z:Option Nat)(a S Y:Int)(N:Option Addr)(P O:Nat)(aa:Value)(F:Bool)(w:World)(E:T8->Int->World->World->Prop)(M:Nat->T8->World->Prop)(C:Nat->T8->Value->Bool->World->Prop)(R:Int->World->Prop)(aY:IntKind.i64.wrap (S+1)=Y)(a4:g<w.heap.size)(ad:Hid (w.cell? ⟨g,0,none⟩=some (ae N P O)/\w.cell? ⟨g,2,none⟩=some (ab S)/\w.cell? ⟨g,3,none⟩=some (.map Z)))(ay:(Instr.lookup 62 (.map Z) (ab a) true).run Tryz.prog w=.ok (.tuple #[aa,.bool F]) w)(J:Hid (F=false->R 4 w))(L:Hid (F=true->∀W,aj w W->am 43 #[aa,ae N P O,ab a,ab Y] W λe w'=>∃(t:T8)(h:Int),e=.returned (.tuple #[.agg #[ab t.y0,ab t.y1,af t.y2,ae t.ya t.yl t.yc,ab t.f,ae t.sa t.sl t.sc,ae t.pa t.pl t.pc,ae t.ka t.kl t.kc],ab h])/\Hid (E t h W w'/\(∀q,w.heap.size<=q->q<W.heap.size->w'.heap[q]?=W.heap[q]?)/\W.heap.size<=w'.heap.size/\(w'.cell? ⟨g,0,none⟩=some (ae N P O)/\w'.cell? ⟨g,2,none⟩=some (ab S)))))(HB:Hid (∀q t h W,Mw E w q t h W->h≠0->R h W))(B:Hid (∀q t W,Mw E w q t 0 W->am 44 #[aF g,af ⟨#[116,97,107,101]⟩,ab a,ab 0,.agg #[ab t.y0,ab t.y1,af t.y2,ae t.ya t.yl t.yc]] W λe w'=>e=.returned (.tuple #[])/\Hid (M q t w')))(x:Hid (∀q t W,M q t W->am 45 #[aF g,ae t.pa t.pl t.pc] W λe w'=>∃v b,e=.returned (.tuple #[v,.bool b])/\Hid (C q t v b w')))(y:Hid (∀q t W,M q t W->W.heap[q]?=some (.cells #[ab t.y0,ab t.y1,af t.y2,ae t.ya t.yl t.yc,ab t.f,ae t.sa t.sl t.sc,ae t.pa t.pl t.pc,ae t.ka t.kl t.kc] 112)))(z:Hid (∀q t v b W,C q t v b W->W.heap[q]?=some (.cells #[ab t.y0,ab t.y1,af t.y2,ae t.ya t.yl t.yc,ab t.f,ae t.sa t.sl t.sc,ae t.pa t.pl t.pc,ae t.ka t.kl t.kc] 112)))(m:Hid (∀q t v b W,C q t v b W->(t.f=2\/t.f=3)->am 46 #[aF g,ab a,ab t.f] W λe w'=>e=.returned (.tuple #[])/\Hid (R 0 w')))(n:Hid (∀q t v W,C q t v false W->¬(t.f=2\/t.f=3)->am 46 #[aF g,ab a,ab 2] W λe w'=>e=.returned (.tuple #[])/\Hid (R 0 w')))(p:Hid (∀q t v W,C q t v true W->¬(t.f=2\/t.f=3)->am 47 #[aF g,ab a,.agg #[ab t.y0,ab t.y1,af t.y2,ae t.ya t.yl t.yc,ab t.f,ae t.sa t.sl t.sc,ae t.pa t.pl t.pc,ae t.ka t.kl t.kc],v] W λe w'=>e=.returned (.tuple #[])/\Hid (R 0 w'))):am 26 #[aF g,ab a] w λe w'=>∃v,e=.returned (ab v)/\Hid (R v w'):=by
 obtain⟨an,aq,ar⟩:=ad.out;go_enter Tryz.func26,Tryz.ntmps26;go_upto_region 2 with fail;cases F
 ·have K:=ao (J.out rfl);clear L J HB B x y z m n p;go_wp2_with fail
  go_ret
  exact⟨4,rfl,K.out⟩
 have V:=ao (L.out rfl);clear L J ay ar;have H:Hid (aj w w.drew):=(ap _ _).drew;have I:Hid (∀o,aj w (w.drew.alloc o)):=λo=>(ap _ _).drew.alloc (ak _) o;have aZ:¬(w.heap.size=g):=by omega
 have a0:¬(g=w.heap.size):=by omega
 go_upto_region 4 with fail;go_cut [7,8] (λaz aA aD=>∃(q:Nat)(t:T8)(h:Int),az=aF q/\aA=ab h/\Hid (Mw E w q t h aD))
 case first=>
  clear HB B x y z m n p
  go_region_with ((first
   | (go_at_call 43;refine(V.out _ (by first|exact H.out|exact I.out _)).mono ?_;rintro e c ⟨t,h,rfl,r⟩;have a3:g<c.heap.size:=(by have:=r.out.2.2.1;simp at this;omega);have a1:¬(c.heap.size=g):=(by omega);have a2:¬(g=c.heap.size):=(by omega);obtain⟨a6,a7⟩:=r.out.2.2.2;(first|(have d:c.heap[w.heap.size]?=some (.cells #[ab 0,ab 0,af ⟨#[]⟩,ae none 0 0,ab 0,ae none 0 0,ae none 0 0,ae none 0 0] 112):=((r.out.2.1 w.heap.size (ak _) (by simp)).trans (aB w.drew _));obtain⟨a8,a9,ba,bb,bc,bd,be,bf⟩:c.cell? ⟨w.heap.size,0,none⟩=some (ab 0)/\c.cell? ⟨w.heap.size,1,none⟩=some (ab 0)/\c.cell? ⟨w.heap.size,2,none⟩=some (af ⟨#[]⟩)/\c.cell? ⟨w.heap.size,3,none⟩=some (ae none 0 0)/\c.cell? ⟨w.heap.size,4,none⟩=some (ab 0)/\c.cell? ⟨w.heap.size,5,none⟩=some (ae none 0 0)/\c.cell? ⟨w.heap.size,6,none⟩=some (ae none 0 0)/\c.cell? ⟨w.heap.size,7,none⟩=some (ae none 0 0):=⟨ag d 0,ag d 1,ag d 2,ag d 3,ag d 4,ag d 5,ag d 6,ag d 7⟩;have aG:c.frozen? ⟨w.heap.size,0,none⟩=false:=(by simp[World.frozen?,d]);have aH:c.frozen? ⟨w.heap.size,1,none⟩=false:=(by simp[World.frozen?,d]);have aJ:c.frozen? ⟨w.heap.size,2,none⟩=false:=(by simp[World.frozen?,d]);have aK:c.frozen? ⟨w.heap.size,3,none⟩=false:=(by simp[World.frozen?,d]);have aL:c.frozen? ⟨w.heap.size,4,none⟩=false:=(by simp[World.frozen?,d]);have aM:c.frozen? ⟨w.heap.size,5,none⟩=false:=(by simp[World.frozen?,d]);have aN:c.frozen? ⟨w.heap.size,6,none⟩=false:=(by simp[World.frozen?,d]);have aO:c.frozen? ⟨w.heap.size,7,none⟩=false:=(by simp[World.frozen?,d]);have al:=ao d;clear d)|skip))))
  all_goals (go_wp2_with fail;go_meet)
  all_goals (refine⟨_,t,h,rfl,rfl,?_⟩)
  all_goals (first
   | exact⟨_,c,H.out,r.out.1,⟨by have:=r.out.2.2.1;simpa using this,ai (ak _)⟩,aB _ _,aI ((ap _ _).alloc (ak _) _) _⟩
   | exact⟨_,c,I.out _,r.out.1,⟨ak _,ah (by simp)⟩,NS al.out rfl _ _ _ _ _ _ _ _⟩)
 case rest=>
 obtain⟨q,t,h,rfl,rfl,A⟩:=hcut;clear V H I an aq;by_cases Q:h=0;rotate_left
 ·have K:=ao (HB.out _ _ _ _ A.out Q);have a5:(h==0)=false:=by simpa using Q
  clear A HB B x y z m n p;go_wp2_with fail
  go_ret
  exact⟨h,rfl,K.out⟩
 subst Q;have X:=ao (B.out _ _ _ A.out);obtain⟨_,_,_,_,_,D,_⟩:=A.out;have au:wc.cell? ⟨q,0,none⟩=some (ab t.y0):=ag D 0;have d1:wc.cell? ⟨q,1,none⟩=some (ab t.y1):=ag D 1;have av:wc.cell? ⟨q,2,none⟩=some (af t.y2):=ag D 2;have aw:wc.cell? ⟨q,3,none⟩=some (ae t.ya t.yl t.yc):=ag D 3;clear D A HB B;go_wp2_with fail;refine X.out.mono ?_;rintro e aC ⟨rfl,G⟩;have U:=ao (x.out _ _ _ G.out);have ax:aC.cell? ⟨q,6,none⟩=some (ae t.pa t.pl t.pc):=ag (y.out _ _ _ G.out) 6;clear X x y G au d1 av aw;go_wp2_with fail;refine U.out.mono ?_;rintro e j ⟨v,b,rfl,k⟩;have i:=ao (z.out _ _ _ _ _ k.out);have aE:j.cell? ⟨q,4,none⟩=some (ab t.f):=ag i.out 4;clear ax U z;by_cases u:t.f=2\/t.f=3
 ·have s:=ao (m.out _ _ _ _ _ k.out u);clear n p m k i;generalize t.f=f at*;rcases u with rfl|rfl
  ·go_wp2_with fail;refine s.out.mono ?_;rintro e T ⟨rfl,l⟩;go_wp2_with fail
   go_ret
   exact⟨0,rfl,l.out⟩
  ·go_wp2_with fail;refine s.out.mono ?_;rintro e T ⟨rfl,l⟩;go_wp2_with fail
   go_ret
   exact⟨0,rfl,l.out⟩
 have aW:(t.f==2)=false:=by simpa using λe=>u (ah e)
 have aX:(t.f==3)=false:=by simpa using λe=>u (ai e)
 cases b
 ·have s:=ao (n.out _ _ _ _ k.out u);clear n p m k i;go_wp2_with fail;refine s.out.mono ?_;rintro e T ⟨rfl,l⟩;go_wp2_with fail
  go_ret
  exact⟨0,rfl,l.out⟩
 ·have s:=ao (p.out _ _ _ _ k.out u);have aP:j.cell? ⟨q,0,none⟩=some (ab t.y0):=ag i.out 0;have aQ:j.cell? ⟨q,1,none⟩=some (ab t.y1):=ag i.out 1;have aR:j.cell? ⟨q,2,none⟩=some (af t.y2):=ag i.out 2;have aS:j.cell? ⟨q,3,none⟩=some (ae t.ya t.yl t.yc):=ag i.out 3;have aT:j.cell? ⟨q,5,none⟩=some (ae t.sa t.sl t.sc):=ag i.out 5;have aU:j.cell? ⟨q,6,none⟩=some (ae t.pa t.pl t.pc):=ag i.out 6;have aV:j.cell? ⟨q,7,none⟩=some (ae t.ka t.kl t.kc):=ag i.out 7;clear n p m k i;go_wp2_with fail;refine s.out.mono ?_;rintro e T ⟨rfl,l⟩;go_wp2_with fail
  go_ret
  exact⟨0,rfl,l.out⟩
end Go.Proofs.YtckamaoibonjcaaGreat
