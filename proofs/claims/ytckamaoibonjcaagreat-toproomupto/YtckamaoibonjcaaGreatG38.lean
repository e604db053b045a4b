/- What is proved here: plain facts and contracts that the claimed theorem stands on. No condition but those that each names. -/
import Derived.Test.YtckamaoibonjcaaGreatG37
import Derived.Deep.DeepCutAuto
namespace Go.Proofs.YtckamaoibonjcaaGreat
open Go.RowKit
set_option maxHeartbeats 4000000
set_option maxRecDepth 100000
theorem dw{g d:Type}{f:g->d->Bool}{p:List g}{b:d}{q:List d}(c:az f p (b::q)=true):∃a e,p=a::e/\f a b=true/\az f e q=true:=by
 cases p with
 | nil=>simp[az]at c
 | cons a p=>
  simp only[az,ay]at c;exact⟨a,p,rfl,c.1,c.2⟩
theorem lO{a b:Type}{f:a->b->Bool}{p:List a}(c:az f p ([]:List b)=true):p=[]:=by
 cases p with
 | nil=>rfl
 | cons d p=>simp[az]at c
theorem Ja{n m:Nat}{x:Tm n}{y:Tm (m+1)}(a:au n x (m+1) y=true):(fQ n x).1=y.1:=(Ek a).1
theorem mO{N n:Nat}{x:Tm (N+1)}{c:ByteArray}{ys:List (Tm (n+1))}(k:au (N+1) x (n+2) (cR (n+1) (aU c n::ys))=true):eF N x=c/\az (λa b=>au N a (n+1) b) (bE N x) ys=true:=by
 obtain⟨l,m⟩:=bz k;obtain⟨a,q,g,h,o⟩:=dw m;have d:x.1.1=4:=by rw[l];rfl
 have e:=Ja h;have i:bK ⟨N,a⟩=2:=by
  cases N with
  | zero=>simp[au]at h
  | succ N=>
   have:a.1.1=2:=by
    have j:a.1=(2,0,c):=e;rw[j]
   exact this
 have f:x.2.2[0]?=some a:=by rw[g];rfl
 have p:x.2.2.drop 1=q:=by rw[g];rfl
 constructor
 ·simp only[eF,d,cH,f,i];rw[e];rfl
 ·simp only[bE,d,cH,f,i,p];exact o
theorem kw(a:ByteArray):rY a a=true:=by simp[rY]
theorem sV{o g:Type}{n:Nat}{f:Tm n->Option o}{R:Tm n->g->Prop}{Q:o->g->Prop}(j:∀y b,R y b->∃a,f y=some a/\Q a b):(q:List (Tm n))->(l:List g)->eu R q l->∃c,cw f q=some c/\eu Q c l
 | [],[],_=>⟨[],rfl,eu.nil⟩
 | [],_::_,h=>by have:=h.1;simp at this
 | _::_,[],h=>by have:=h.1;simp at this
 | y::q,b::l,h=>by
  obtain⟨a,p,k⟩:=j y b h.tail.1;obtain⟨c,r,m⟩:=sV j q l h.tail.2;refine⟨a::c,by simp[cw,p,r],by simp[m.1],λi s v d e=>?_⟩;cases i with
  | zero=>
   simp at d e;subst d e;exact k
  | succ i=>exact m.2 i s v (by simpa using d) (by simpa using e)
theorem kR{e:Type}{n m:Nat}(g:e->Tm m):(q:List (Tm n))->(l:List e)->az (λa b=>au n a m b) q (l.map g)=true->eu (λy b=>au n y m (g b)=true) q l
 | [],[],_=>eu.nil
 | [],_::_,h=>by simp[az]at h
 | _::_,[],h=>by simp[az]at h
 | y::q,b::l,h=>by
  simp only[aH,az,ay]at h;have ih:=kR g q l h.2;refine⟨by simp[ih.1],λi f v c d=>?_⟩;cases i with
  | zero=>
   simp at c d;subst c d;exact h.1
  | succ i=>exact ih.2 i f v (by simpa using c) (by simpa using d)
theorem jN{a s:ByteArray}(b:a.toList≠s.toList):rY a s=false:=by simpa [rY]using b
theorem MI(M N n:Nat)(a:Ac (n+1))(y:Tm N)(b:au N y (n+2) (bU n a)=true):∃E,rF M N y=some E:=by
 cases N with
 | zero=>simp[au]at b
 | succ N=>
 have i:lT.toList=[115,101,110,100]:=jJ [115,101,110,100];have j:iz.toList=[115,112,97,119,110]:=jJ [115,112,97,119,110];have k:lS.toList=[108,105,110,107]:=jJ [108,105,110,107];have l:kU.toList=[115,116,111,112]:=jJ [115,116,111,112];unfold bU at b;split at b
 ·obtain⟨c,d⟩:=mO b;obtain⟨s,t,f,r,h⟩:=dw d;obtain⟨B,C,o,z,q⟩:=dw h;have p:=lO q;subst o p;simp only[rF,jp,c,f,kw];exact⟨_,rfl⟩
 split at b
 ·obtain⟨c,d⟩:=mO b;obtain⟨s,t,f,r,h⟩:=dw d;obtain⟨B,C,o,z,q⟩:=dw h;obtain⟨D,F,p,A,v⟩:=dw q;have g:=lO v;subst o p g;have w:bK ⟨N,s⟩=2:=by rw[jR r];rfl
  have x:bK ⟨N,D⟩=5:=by rw[jR A];rfl
  have e:rY iz lT=false:=jN (by rw[i,j];decide);simp only[rF,jp,c,f,kw,e,Bool.false_and,dX];simp[yk,w,x]
 split at b
 ·obtain⟨c,d⟩:=mO b;obtain⟨s,t,f,r,h⟩:=dw d;have g:=lO h;subst g;have e:rY lS lT=false:=jN (by rw[i,k];decide);have m:rY lS iz=false:=jN (by rw[j,k];decide);simp only[rF,jp,c,f,kw,e,m,Bool.false_and,dX];simp
 ·obtain⟨c,d⟩:=mO b;have g:=lO d;have e:rY kU lT=false:=jN (by rw[i,l];decide);have m:rY kU iz=false:=jN (by rw[j,l];decide);have u:rY kU lS=false:=jN (by rw[k,l];decide);simp only[rF,jp,c,g,kw,e,m,u,Bool.false_and,dX];simp
theorem MK(M N n:Nat)(c:Cl (n+1))(y:Tm N)(g:au N y (n+4) (dp n c)=true):∃e,yj M N y=some e:=by
 cases N with
 | zero=>simp[au]at g
 | succ N=>
 obtain⟨o,p⟩:=mO g;obtain⟨B,G,i,D,q⟩:=dw p;obtain⟨C,H,j,E,r⟩:=dw q;obtain⟨a,I,k,d,s⟩:=dw r;obtain⟨t,J,l,F,u⟩:=dw s;have m:=lO u;subst j k l m;have v:bK ⟨N,a⟩=4:=by rw[jR d];rfl
 cases N with
 | zero=>simp[au]at d
 | succ N=>
 obtain⟨h,z,_⟩:=sV (f:=rF M N) (R:=λy b=>au N y (n+2) (bU n b)=true) (Q:=λ_ _=>True) (λy b w=>by
  obtain⟨e,x⟩:=MI M N n b y w
  exact⟨e,x,trivial⟩) a.2.2 c.2.2 (kR (bU n) _ _ (bz d).2)
 have A:cw (rF M (N+1-1)) (DE (N+1) a)=some h:=z;refine⟨((aK (M+1) (N+1) B,aK (M+1) (N+1) C,aK (M+1) (N+1) t),(none,0),h),?_⟩;show rG M (N+1) (eF (N+1) y) (bE (N+1) y)=_;rw[o,i];unfold rG;rw[if_pos (by rw[kw];rfl)];show (if bK ⟨N+1,a⟩=4 then (cw (rF M (N+1-1)) (DE (N+1) a)).map _ else none)=_;rw[if_pos v,A];rfl
theorem MJ(M N n:Nat)(b:Bh (n+1))(y:Tm N)(c:au N y (n+5) (dz n b)=true):∃a,yh M N y=some a/\a.2.2.length=b.2.2.length:=by
 cases N with
 | zero=>simp[au]at c
 | succ N=>
 obtain⟨g,h⟩:=mO c;obtain⟨d,q,e,p,i⟩:=dw h;have j:bK ⟨N,d⟩=2:=by rw[jR p];rfl
 obtain⟨r,o,k⟩:=sV (f:=yj M N) (R:=λy b=>au N y (n+4) (dp n b)=true) (Q:=λ_ _=>True) (λy b l=>by
  obtain⟨a,m⟩:=MK M N n b y l
  exact⟨a,m,trivial⟩) q b.2.2 (kR (dp n) _ _ i)
 refine⟨(vU N d,(none,0),r),?_,k.1⟩;simp only[yh,sJ,g,e,kw];simp[j,o]
theorem I3(M N n:Nat)(q:N<=M+1)(l:List (Bh (n+1)))(e:jP (n+1) l=true)(x:Tm N)(r:av ⟨N,x⟩)(i:au N x (n+6) (bR n l)=true):∃a,AO M N x=some a/\jP (M+1) a=true/\a.length=l.length:=by
 cases N with
 | zero=>simp[au]at i
 | succ N=>
 obtain⟨o,p⟩:=mO i;obtain⟨h,u,c⟩:=sV (f:=yh M N) (R:=λg b=>au N g (n+5) (dz n b)=true) (Q:=λa b=>a.2.2.length=b.2.2.length) (λg b s=>MJ M N n b g s) (bE N x) l (kR (dz n) _ _ p);have m:AO M (N+1) x=some h:=by
  simp only[AO,o,kw];simpa using u
 refine⟨h,m,?_,c.1⟩;rw[(AP M (N+1) q x r h m).2];simp only[jP,vd,ay,bT,bX]at e ⊢;refine⟨by rw[c.1];exact e.1.1,λa t=>?_⟩;obtain⟨d,j⟩:=cM t;have k:d<l.length:=by have:=(aL.1 j).1;rw[<-c.1];exact this
 have:=c.2 d a l[d] j (aD k);rw[this];exact(e.2 l[d] (jc k)).1.1.2
def zX(M:Nat)(o:Option (List (Bh (M+1)))):Int:=match o with|some l=>if jP (M+1) l=true then 0 else 5|none=>5
def zW(M n:Nat)(x:Tm n):Int:=if bm n x=0 then zX M (AO M n x)else bm n x
def sU(M:Nat)(E:Int)(o:Option (List (Bh (M+1))))(w:World)(e:Ending)(w':World):Prop:=
 ∃(l:List (Bh (M+1)))(a:Option Addr)(c:Nat),e=.returned (.tuple #[.slice a l.length c,.int .i64 E])/\Hid (ag w w'/\(l.length<=c/\c<=maxLen)/\gF (M+1) w'.heap.size w' a l/\sD (jt (M+1) (λb=>w.heap.size<=b)) (λb=>w.heap.size<=b) a l/\(¬E=0->l=[])/\(E=0->∃d,o=some d/\eu (xk (M+1)) l d))
theorem rq{M:Nat}{E:Int}{o:Option (List (Bh (M+1)))}{w w':World}(a:¬E=0)(c:ag w w'):sU M E o w (.returned (.tuple #[.slice none 0 0,.int .i64 E])) w':=
 ⟨[],none,0,rfl,c,⟨ai _,aB _⟩,ae rfl,ae rfl,λ_=>rfl,λb=>(a b).elim⟩
theorem Fa(M:Nat)(k A:Int)(s:ByteArray)(a:Option Addr)(l c:Nat)(w:World)(g:Int)(o:Option (List (Bh (M+1))))(E:Int)(J:Hid (E=if g=0 then zX M o else g))(Q:Hid (∀w1,ag w w1->ah 51 #[.agg #[.int .i64 k,.int .i64 A,.string s,.slice a l c]] w1 λe w'=>e=.returned (.int .i64 g)/\ag w1 w'))(H:Hid (g=0->∀w1,ag w w1->ah 60 #[.agg #[.int .i64 k,.int .i64 A,.string s,.slice a l c]] w1 (tp M o w1))):ah 35 #[.agg #[.int .i64 k,.int .i64 A,.string s,.slice a l c]] w (sU M E o w):=by
 go_enter Tryz.func35,Tryz.ntmps35;go_wp2_with fail;refine(Q.out _ aI).mono ?_;rintro e w1 ⟨rfl,L⟩;have q:Hid (ag w w1):=aI.trans (L.mono (by simp));have j:=aj (qh w _ _ _ _ _ L);clear L Q;by_cases z:g=0
 ·subst z;have S:=aj (H.out (by simp) w1 q.out);have X:w1.cell? ⟨w.heap.size,0,none⟩=some (.int .i64 k):=ao j.out 0;have Y:w1.cell? ⟨w.heap.size,1,none⟩=some (.int .i64 A):=ao j.out 1;have Z:w1.cell? ⟨w.heap.size,2,none⟩=some (.string s):=ao j.out 2;have aa:w1.cell? ⟨w.heap.size,3,none⟩=some (.slice a l c):=ao j.out 3;have al:w.heap.size<w1.heap.size:=(aA.1 j.out).1;have D:=aj (show E=zX M o by simpa using J.out);clear H J;go_wp2_with fail;refine S.out.mono ?_;rintro e B ⟨p,u,y,af,rfl,i⟩;obtain⟨t,K⟩:∃t,p.length=t:=⟨_,rfl⟩;rw[K];have G:=aj K;have r:Hid (ag w B):=q.out.trans (i.out.1.mono q.out.size);clear K S X Y Z aa j;cases af
  ·have h:Hid (E=5):=by
     show E=5;rw[D.out];have d:=i.out.2.1;cases o with
     | none=>rfl
     | some f=>cases d
   have W:Hid (sU M E o w (.returned (.tuple #[.slice none 0 0,.int .i64 5])) B):=by
    have d:=rq (M:=M) (E:=E) (o:=o) (by rw[h.out];omega) r.out;rw[h.out]at d;rw[h.out];exact d
   go_wp2_with fail;exact ap (v:=.tuple #[.slice none 0 0,.int .i64 5]) (by simp[results,Tryz.results35,go_sem]) rfl W.out
  ·have F:Hid (∀m,ag B m->ah 58 #[.slice u t y] m λe w'=>e=.returned (.bool (jP (M+1) p))/\ag m w'):=λm T=>
     oU M p t G.out u y B.heap.size m (gF.below T i.out.2.2.2.1) (by have:=i.out.2.2.1;have:=G.out;unfold maxLen at*;omega) T.size
   obtain⟨b,x⟩:∃b,jP (M+1) p=b:=⟨_,rfl⟩;rw[x]at F;have R:=aj x;clear x;have I:Hid (∃f,o=some f/\eu (xk (M+1)) p f):=by
    have d:=i.out.2.1;cases o with
    | none=>cases d
    | some f=>exact⟨f,rfl,i.out.2.2.2.2.2 f rfl⟩
   cases b
   ·have h:Hid (E=5):=by
      show E=5;obtain⟨f,O,N⟩:=I.out;rw[D.out,O];show (if jP (M+1) f=true then (0:Int)else 5)=5;rw[<-IU N,R.out];rfl
    go_wp2_with (go_at_call 58;refine(F.out _ (ak _ _)).mono ?_;rintro e m ⟨rfl,n⟩;have C:=aj (r.out.trans (n.mono r.out.size));clear n);refine ap (v:=.tuple #[.slice none 0 0,.int .i64 5]) (by simp[results,Tryz.results35,go_sem]) rfl ?_;have d:=rq (M:=M) (E:=E) (o:=o) (by rw[h.out];omega) C.out;rw[h.out]at d;rw[h.out];exact d
   ·have U:Hid (E=0):=by
      show E=0;obtain⟨f,O,N⟩:=I.out;rw[D.out,O];show (if jP (M+1) f=true then (0:Int)else 5)=0;rw[<-IU N,R.out];rfl
    go_wp2_with (go_at_call 58;refine(F.out _ (ak _ _)).mono ?_;rintro e m ⟨rfl,n⟩;have P:=aj n;have C:=aj (r.out.trans (n.mono r.out.size));clear n);refine ap (v:=.tuple #[.slice u t y,.int .i64 0]) (by simp[results,Tryz.results35,go_sem]) rfl ?_;obtain⟨am,an,ab,ad,ae,aq⟩:=i.out;rw[U.out];exact⟨p,u,y,by rw[G.out],C.out,ab,(gF.below P.out ad).mono P.out.size,(cq (dI _) 2 (oM (M+1)) u).1 _ _ _ (λb x=>aw q.out.size x) ae,λd=>(d rfl).elim,λ_=>I.out⟩
 ·have ai:(g !=0)=true:=by simpa using z
  have V:Hid (E=g):=by
   show E=g;rw[J.out,if_neg z]
  clear H j;go_wp2_with fail;refine ap (v:=.tuple #[.slice none 0 0,.int .i64 g]) (by simp[results,Tryz.results35,go_sem]) rfl ?_;rw[V.out];exact rq z q.out
theorem zY(M n:Nat)(g:n<=M+1)(x:Tm n)(B:Nat)(w:World)(c:In B w n x)(f:(ar n x).length<=2097152)(b:B<=w.heap.size):ah 35 #[dd n x] w (sU M (zW M n x) (AO M n x) w):=by
 cases n with
 | zero=>exact c.elim
 | succ n=>
 exact Fa M x.1.1 x.1.2.1 x.1.2.2 x.2.1.1 x.2.2.length x.2.1.2 w (bm (n+1) x) _ _ rfl (λd a=>dx (n+1) x B d (c.below (a.mono b)) (aw b a.size) f) (λe d a=>yw M (n+1) g x B d (c.below (a.mono b)) (aG.2 (br.1 e).1) (aw b a.size))
theorem pi{n:Nat}{x:Tm n}(a:bm n x=0):av ⟨n,x⟩:=aG.2 (br.1 a).1
theorem fx{n:Nat}{p:List (Bh (n+1))}(b:mZ n p=0):jP (n+1) p=true/\bm (n+6) (bR n p)=0/\Jt n p=bR n p:=by
 have a:=b;unfold mZ at a;split at a
 ·rename_i c;exact⟨c,a,by unfold Jt;rw[if_pos b]⟩
 ·omega
theorem MP{n:Nat}{p:List (Bh (n+1))}(a:jP (n+1) p=true)(k:bm (n+6) (bR n p)=0):mZ n p=0:=by
 unfold mZ;rw[if_pos a];exact k
theorem wu{M n:Nat}(i:n<=M+1){x:Tm n}(e:bm n x=0){a l:List (Bh (M+1))}(j:AO M n x=some a)(f:eu (xk (M+1)) l a)(h:jP (M+1) a=true):jP (M+1) l=true/\mZ M l=0/\au (M+6) (Jt M l) n x=true/\(ar (M+6) (bR M l)).length=(ar n x).length:=by
 have g:=AP M n i x (pi e) a j;have c:jP (M+1) l=true:=(IU f).trans h;have b:au (M+6) (bR M l) n x=true:=bM _ _ _ _ _ _ (IV f) g.1;have d:mZ M l=0:=MP c ((bH b).trans e);exact⟨c,d,by rw[(fx d).2.2];exact b,jS _ _ _ _ b⟩
theorem Gl{n:Nat}{p:List (Bh (n+1))}(i:mZ n p=0){y:Tm (n+6)}(a:au (n+6) y (n+6) (Jt n p)=true):bm (n+6) y=0/\zW (n+5) (n+6) y=0/\∀e l,AO (n+5) (n+6) y=some e->eu (xk (n+6)) l e->jP (n+6) l=true/\mZ (n+5) l=0/\au (n+11) (Jt (n+5) l) (n+6) (Jt n p)=true/\l.length=p.length/\(ar (n+11) (bR (n+5) l)).length=(ar (n+6) (bR n p)).length:=by
 obtain⟨j,k,f⟩:=fx i;rw[f]at a;have b:bm (n+6) y=0:=(bH a).trans k;obtain⟨e,d,h,m⟩:=I3 (n+5) (n+6) n (ai _) p j y (pi b) a;refine⟨b,?_,λt l c g=>?_⟩
 ·unfold zW;rw[if_pos b,d];unfold zX;simp only[h,cH]
 ·rw[d]at c;injection c with c;subst c;obtain⟨o,q,r,s⟩:=wu (ai _) b d g h;exact⟨o,q,by rw[f];exact bM _ _ _ _ _ _ r a,g.1.trans m,by rw[s];exact jS _ _ _ _ a⟩
def lm(lo:Nat)(room:Int)(K:Nat)(e:Nat->Prop)(B:Nat)(w:World):List (Int×ByteArray×Tc)->List Nat->Nat->Prop
 | [],[],c=>c<=B
 | x::l,b::bs,c=>∃a d,(c<=a/\a<=d)/\P1 lo b x.2.1 room x.2.2 [] K (λq=>a<=q/\q<d) w/\(∀q,a<=q->q<d->¬e q)/\lm lo room K e B w l bs d
 | _,_,_=>False
section
variable {lo K:Nat} {room:Int} {X:Nat->Prop} {B:Nat} {w:World}
theorem lm.le:{l:List (Int×ByteArray×Tc)}->{a:List Nat}->{c:Nat}->lm lo room K X B w l a c->c<=B
 | [],[],_,h=>h
 | [],_::_,_,h=>h.elim
 | _::_,[],_,h=>h.elim
 | _::_,_::_,_,⟨c1,c2,h1,_,_,h4⟩=>by have:=h4.le;omega
theorem lm.kept2{w':World}{S f:Nat->Prop}{e c0:Nat}(a:bi S w w')(j:∀q,c0<=q->q<B->S q->X q)(k:∀q,q<B->f q->X q)(i:B<=e):{l:List (Int×ByteArray×Tc)}->{g:List Nat}->{c:Nat}->c0<=c->lm lo room K X B w l g c->lm lo room K f e w' l g c
 | [],[],_,_,h=>aw h i
 | [],_::_,_,_,h=>h.elim
 | _::_,[],_,_,h=>h.elim
 | _::_,_::_,_,hc,⟨c1,c2,h1,h2,h3,h4⟩=>by
  have o:=h4.le;exact⟨c1,c2,h1,h2.kept (S:=S) ⟨a.os,a.tape,a.output,a.size,a.block⟩ λb q d=>h3 b q.1 q.2 (j b (by omega) (by omega) d),λq m n d=>h3 q m n (k q (by omega) d),h4.kept2 a j k i (by omega)⟩
theorem lm.kept{w':World}{S b:Nat->Prop}{a:Nat}(i:bi S w w')(g:∀q,q<B->S q->X q)(h:∀q,q<B->b q->X q)(f:B<=a){l:List (Int×ByteArray×Tc)}{d:List Nat}{c:Nat}(e:lm lo room K X B w l d c):lm lo room K b a w' l d c:=e.kept2 (c0:=0) i (λq _=>g q) h f (aB _)
theorem lm.snoc{a B2 e b:Nat}{x:Int×ByteArray×Tc}(g:B<=a)(d:a<=B2/\B2<=e)(i:P1 lo b x.2.1 room x.2.2 [] K (λq=>a<=q/\q<B2) w)(j:∀q,a<=q->q<B2->¬X q):{l:List (Int×ByteArray×Tc)}->{f:List Nat}->{c:Nat}->lm lo room K X B w l f c->lm lo room K X e w (l++ [x]) (f++ [b]) c
 | [],[],_,h=>⟨a,B2,⟨aw h g,d.1⟩,i,j,d.2⟩
 | [],_::_,_,h=>h.elim
 | _::_,[],_,h=>h.elim
 | _::_,_::_,_,⟨c1,c2,h1,h2,h3,h4⟩=>⟨c1,c2,h1,h2,h3,h4.snoc g d i j⟩
end
section
variable {p:lh} {s:Sy} {d:gf} {w:World}
theorem KP{n:Nat}{x:Tm n}(room:Int)(nm:ByteArray)(b:bm n x=0):fK 13 (cn n x) room nm=fK n x room nm:=by
 have a:=eX b;unfold fK jo;rw[bH a,co _ _ _ _ a,kS _ _ _ _ a]
theorem aX.made(z:aX p s d w){N ad:Nat}{pa:Option Addr}{pl pc:Nat}{t:List (Int×ByteArray×Tm (N+1))}(aB:w.ownsRow ad 159 6 (.slice pa pl pc) pl (t.flatMap λg=>MM g.1 g.2.1 g.2.2))(aw:t.length=pl)(Y:pl<=1000)(aF:∀g∈t,bm _ g.2.2=0/\In w.heap.size w _ g.2.2):ah 45 #[.pointer (some ⟨p.b,0,none⟩),.slice pa pl pc] w λe w'=>∃v b,e=.returned (.tuple #[v,.bool b])/\Hid (ag w w'/\b=s.made p.n p.prog p.room (t.map λg=>(g.1,g.2.1,cn _ g.2.2))/\(b=true->∃m a c,v=.slice a pl c/\m.length=pl/\w'.ownsRow w.heap.size 60 1 v pl (m.map yR)/\lm p.lo p.room (d.k+201) (λq=>v.ownBlock=some q) w'.heap.size w' (t.map λg=>(g.1,g.2.1,cn _ g.2.2)) m w.heap.size)):=by
 have az:jP (p.n+1) p.prog=true:=(fx z.pg.2.2.2.1).1;obtain⟨aQ,O,ae,_,ap⟩:=qD aB (by decide) λg=>rfl;injection ae with ak aS aR;subst ak;have F:∀f,f<pl->t[f]?=some (t.getD f (0,⟨#[]⟩,((0,0,⟨#[]⟩),(none,0),[]))):=λf i=>by
  rw[l6,aD (by omega)];rfl
 generalize T:(λf=>t.getD f (0,⟨#[]⟩,((0,0,⟨#[]⟩),(none,0),[])))=h;have F:∀f,f<pl->t[f]?=some (h f):=λf i=>by rw[F f i,<-T]
 clear T;obtain⟨o,J⟩:∃o,o=t.map λg=>(g.1,g.2.1,cn _ g.2.2):=⟨_,rfl⟩;rw[<-J];have U:o.length=pl:=by rw[J,fA,aw]
 have K:∀f,f<pl->o[f]?=some ((h f).1,(h f).2.1,cn _ (h f).2.2):=λf i=>by rw[J,dj,F f i];rfl
 have W:∀f,f<pl->bm _ (h f).2.2=0/\In w.heap.size w _ (h f).2.2:=λf i=>aF _ (aC (F f i));have X:∀f,f<pl->fK 13 (cn _ (h f).2.2) p.room (h f).2.1=fK _ (h f).2.2 p.room (h f).2.1:=λf i=>KP _ _ (W f i).1;have aG:∀f,f<pl->o.take (f+1)=o.take f++ [((h f).1,(h f).2.1,cn _ (h f).2.2)]:=λf i=>by
  rw[dt,K f i];rfl
 refine Ft p.b pa pl pc (s.may pl) p.room w (λf=>(h f).1) (λf=>(h f).2.2.1.1) (λf=>(h f).2.2.1.2.1) (λf=>(h f).2.1) (λf=>(h f).2.2.1.2.2) (λf=>(h f).2.2.2.1.1) (λf=>(h f).2.2.2.2.length) (λf=>(h f).2.2.2.1.2) (λf=>ky p.n p.prog (h f).2.1) (λf=>fK _ (h f).2.2 p.room (h f).2.1) (λf m v j=>lm p.lo p.room (d.k+201) (λq=>v.ownBlock=some q) j.heap.size j (o.take f) m w.heap.size/\∀q,v.ownBlock=some q->q<j.heap.size)
  (λf G m v j=>∃x,(w.heap.size<=x/\x<=j.heap.size)/\(lm p.lo p.room (d.k+201) (λq=>v.ownBlock=some q) x j (o.take f) m w.heap.size)/\(∀q,v.ownBlock=some q->q<x)/\P1 p.lo G (h f).2.1 p.room (cn _ (h f).2.2) [] (d.k+201) (λq=>x<=q/\q<j.heap.size) j) (λv b w'=>ag w w'/\b=s.made p.n p.prog p.room o/\(b=true->∃m a c,v=.slice a pl c/\m.length=pl/\w'.ownsRow w.heap.size 60 1 v pl (m.map yR)/\lm p.lo p.room (d.k+201) (λq=>v.ownBlock=some q) w'.heap.size w' o m w.heap.size)) Y z.lo.2 z.cells.2.1 (λf i=>?_) (z.mayHave pl Y) (λf j i l=>(z.later l).knows _) (λf m v j i r l E=>?_) ?_ (λf m v j H E l=>?_) (λf G m a c D O j ab H B ao l A ar au=>?_) (λj l u=>?_) λj m a c l al Q am an R=>?_
 ·obtain⟨D,I,P,y⟩:=ap f _ (F f i);exact⟨D,I,P,y 0 _ rfl,y 1 _ rfl,y 2 _ rfl,y 3 _ rfl,y 4 _ rfl,y 5 _ rfl⟩
 ·have aV:=Cr az r;obtain⟨aI,aK⟩:=W f i;refine(P1.new _ (h f).2.2 p.room (h f).2.1 j (by omega) ((aK.below l).mono l.size) (eH aI)).mono ?_;rintro e w' ⟨q,rfl,aa⟩;obtain⟨L,aW,aM⟩:=aa.out;refine⟨q,rfl,L,λe=>?_⟩;obtain⟨G,I,P,y,aj⟩:=aM e;have:=z.lo.1;have:=l.size;refine⟨G,I,j.heap.size,⟨l.size,L.size⟩,E.1.kept (aE L λ_=>False) (λ_ _ g=>g.elim) (λ_ _ g=>g) (ai _),E.2,aj.mono (λb g=>g) (by omega) λb g=>⟨by omega,g.2⟩⟩
 ·exact⟨ai _,(λq g=>by cases g)⟩
 ·exact⟨E.1.kept (aE l λ_=>False) (λ_ _ g=>g.elim) (λ_ _ g=>g) l.size,λq g=>aJ (E.2 q g) l.size⟩
 ·obtain⟨x,⟨aY,aZ⟩,aN,Z,aO⟩:=ao;have av:bi (λq=>(Value.slice a f c).ownBlock=some q) ab H:=⟨A.os,A.tape,A.output,A.size,λk r ax=>A.block k r λe=>ax e.symm⟩;have r:bi (λq=>(Value.slice a f c).ownBlock=some q) j H:=(aE l _).trans av λ_ _ e=>e;have aT:=l.size;have aU:=A.size;have V:∀q,q<j.heap.size->(Value.slice (some ⟨D,0,none⟩) (f+1) O).ownBlock=some q->(Value.slice a f c).ownBlock=some q:=λq aA g=>by
   obtain rfl:D=q:=aq g;rcases ar with e|e
   ·exact e
   ·omega
  refine⟨?_,λq g=>?_⟩
  ·rw[aG f B];refine lm.snoc (ai x) (B2:=j.heap.size) (by omega) ?_ ?_ (aN.kept r (λq _ g=>g) (λq aA g=>V q (by omega) g) (ai _))
   ·exact aO.kept (S:=λq=>(Value.slice a f c).ownBlock=some q) ⟨r.os,r.tape,r.output,r.size,r.block⟩ λb g C=>by have:=Z b C;omega
   ·exact λq M C aP=>by have:=Z q (V q C aP);omega
  ·obtain rfl:D=q:=aq g;exact au
 ·refine⟨l,?_,(λg=>by cases g)⟩;unfold Sy.made;rw[U];rcases u with u|⟨f,i,u⟩
  ·rw[u];rfl
  ·refine Eq.symm (Bool.and_eq_false_iff.2 (af ?_));rw[List.all_eq_false];refine⟨_,aC (K f i),?_⟩;simp only[ay,b9,not_and];intro M C;rw[X f i]at C;rcases u with u|u
   ·rw[u]at M;cases M
   ·exact u C
 ·refine⟨l,?_,λ_=>⟨m,a,c,rfl,am,an,?_⟩⟩
  ·unfold Sy.made;rw[U,al,dX,eq_comm,bX];intro a0 aH;obtain⟨f,i⟩:=List.mem_iff_getElem?.1 aH;have B:f<pl:=by have:=(aL.1 i).1;omega
   rw[K f B]at i;obtain rfl:=aq i;simp only[ay,b9];exact⟨(Q f B).1,(X f B).trans (Q f B).2⟩
  ·rw[bw (by omega)]at R;exact R.1
end
theorem yx(x:Nat)(a O P:Int)(Q:ByteArray)(ma:Option Addr)(T S:Nat)(f:Int)(sa:Option Addr)(sl sc:Nat)(pa:Option Addr)(pl pc:Nat)(ka:Option Addr)(kl kc:Nat)(ao:Option Addr)(vl az:Nat)(aa:Nat->Nat)(C D E:Nat->Int)(F:Nat->ByteArray)(xa:Nat->Option Addr)(G xc:Nat->Nat)(an:Nat->Int)(w:World)(k o p:Nat->Nat->World->Prop)(R:World->Prop)(aI:vl<=1000)(aH:sl<=1000)(aG:kl<=1000)(X:Hid (∀q W,ag w W->w.heap.size<=q->W.heap[q]?=some (.cells #[.int .i64 O,.int .i64 P,.string Q,.slice ma T S,.int .i64 f,.slice sa sl sc,.slice pa pl pc,.slice ka kl kc] 112)->k q 0 W))(H:Hid (∀q W,k q vl W->o q 0 W))(y:Hid (∀q W,o q sl W->p q 0 W))(i:Hid (∀q j W,(k q j W\/o q j W\/p q j W)->W.heap[q]?=some (.cells #[.int .i64 O,.int .i64 P,.string Q,.slice ma T S,.int .i64 f,.slice sa sl sc,.slice pa pl pc,.slice ka kl kc] 112)))(I:Hid (∀q j W,j<vl->k q j W->(∃g,ao=some ⟨g,0,none⟩/\W.cell? ⟨g,j,none⟩=some (.pointer (some ⟨aa j,0,none⟩)))/\Hid (ah 40 #[.pointer (some ⟨x,0,none⟩),.int .i64 a,.pointer (some ⟨aa j,0,none⟩)] W λe w'=>e=.returned (.tuple #[])/\Hid (k q (j+1) w'))))(z:Hid (∀q j W,j<sl->o q j W->(∃g,sa=some ⟨g,0,none⟩/\W.cell? ⟨g,j*5,none⟩=some (.int .i64 (C j))/\W.cell? ⟨g,j*5+1,none⟩=some (.int .i64 (D j))/\W.cell? ⟨g,j*5+2,none⟩=some (.int .i64 (E j))/\W.cell? ⟨g,j*5+3,none⟩=some (.string (F j))/\W.cell? ⟨g,j*5+4,none⟩=some (.slice (xa j) (G j) (xc j)))/\Hid (∀Z,ag W Z->ah 75 #[.pointer (some ⟨x,0,none⟩),.int .i64 a,.int .i64 (C j),.agg #[.int .i64 (D j),.int .i64 (E j),.string (F j),.slice (xa j) (G j) (xc j)]] Z λe w'=>e=.returned (.tuple #[])/\Hid (o q (j+1) w'))))(t:Hid (∀q j W,j<kl->p q j W->(∃g,ka=some ⟨g,0,none⟩/\W.cell? ⟨g,j,none⟩=some (.int .i64 (an j)))/\Hid (ah 76 #[.pointer (some ⟨x,0,none⟩),.int .i64 a,.int .i64 (an j)] W λe w'=>e=.returned (.tuple #[])/\Hid (p q (j+1) w'))))(s:Hid (∀q W,p q kl W->(f=1->ah 46 #[.pointer (some ⟨x,0,none⟩),.int .i64 a,.int .i64 1] W λe w'=>e=.returned (.tuple #[])/\Hid (R w'))/\(f≠1->R W))):ah 47 #[.pointer (some ⟨x,0,none⟩),.int .i64 a,.agg #[.int .i64 O,.int .i64 P,.string Q,.slice ma T S,.int .i64 f,.slice sa sl sc,.slice pa pl pc,.slice ka kl kc],.slice ao vl az] w λe w'=>e=.returned (.tuple #[])/\Hid (R w'):=by
 go_enter Tryz.func47,Tryz.ntmps47;go_upto_region 1 with fail;generalize m:w.alloc _=ap;obtain⟨q,B⟩:∃q,q=w.heap.size:=⟨_,rfl⟩;rw[<-B];have V:Hid (k q 0 ap):=X.out q ap (by rw[<-m];exact(ak _ _).alloc (ai _) _) (dk B.symm) (by rw[<-m,B];exact ax _ _);clear m B X;go_wp2_with fail;go_loopw [9,16] (λ_ c wr=>∃(j:Nat),j<=vl/\c=.int .i64 j/\Hid (k q j wr)) (λ_ c _=>vl-(intOf c).toNat)
 case atStart=>exact⟨0,aB _,rfl,V.out⟩
 case round=>
 obtain⟨j,A,rfl,b⟩:=hrel;by_cases l:j<vl
 ·obtain⟨⟨g,rfl,M⟩,n⟩:=I.out q j wr l b.out;have al:(0:Int)<=(j:Int):=by omega
  have am:(j:Int)<(vl:Int):=by omega
  clear H y i I z t s b;go_wp2_with fail;refine n.out.mono ?_;rintro e d ⟨rfl,h⟩;go_wp2_with fail;go_roundw
  case rel=>exact⟨j+1,by omega,by go_num,h.out⟩
  case measure=>simp[intOf];omega
 obtain rfl:j=vl:=by omega
 have K:=aj (H.out _ _ b.out);clear b I H V A l;have aw:wr.cell? ⟨q,5,none⟩=some (.slice sa sl sc):=ab (i.out q 0 wr (af (ae K.out))) 5;go_wp2_with fail;clear aw;go_loopw [11,28] (λ_ c U=>∃(j:Nat),j<=sl/\c=.int .i64 j/\Hid (o q j U)) (λ_ c _=>sl-(intOf c).toNat)
 case atStart=>exact⟨0,aB _,rfl,K.out⟩
 case round=>
 clear K;obtain⟨j,A,rfl,b⟩:=hrel;by_cases l:j<sl
 ·obtain⟨⟨g,rfl,M,ar,au,av,ad⟩,n⟩:=z.out q j _ l b.out;have al:(0:Int)<=(j:Int):=by omega
  have am:(j:Int)<(sl:Int):=by omega
  clear y i z t s b;go_upto_region 9 with fail;generalize m:World.alloc _ _=d;have r:d.heap[wr.heap.size]?=some (.cells #[.int .i64 (C j),.int .i64 (D j),.int .i64 (E j),.string (F j),.slice (xa j) (G j) (xc j)] 162):=by
   rw[<-m];exact ax _ _
  have aq:=aj (n.out d (by rw[<-m];exact(ak _ _).alloc (ai _) _));generalize wr.heap.size=u at*;have aA:d.cell? ⟨u,0,none⟩=some (.int .i64 (C j)):=ab r 0;have d1:d.cell? ⟨u,1,none⟩=some (.int .i64 (D j)):=ab r 1;have aC:d.cell? ⟨u,2,none⟩=some (.int .i64 (E j)):=ab r 2;have aD:d.cell? ⟨u,3,none⟩=some (.string (F j)):=ab r 3;have aE:d.cell? ⟨u,4,none⟩=some (.slice (xa j) (G j) (xc j)):=ab r 4;clear m r n M ar au av ad;go_wp2_with fail;refine aq.out.mono ?_;rintro e aJ ⟨rfl,h⟩;go_wp2_with fail;go_roundw
  case rel=>exact⟨j+1,by omega,by go_num,h.out⟩
  case measure=>simp[intOf];omega
 obtain rfl:j=sl:=by omega
 have L:=aj (y.out _ _ b.out);clear b z y A l;have ay:wr.cell? ⟨q,7,none⟩=some (.slice ka kl kc):=ab (i.out q 0 wr (af (af L.out))) 7;go_wp2_with fail;clear ay;go_loopw [13,43] (λ_ c U=>∃(j:Nat),j<=kl/\c=.int .i64 j/\Hid (p q j U)) (λ_ c _=>kl-(intOf c).toNat)
 case atStart=>exact⟨0,aB _,rfl,L.out⟩
 case round=>
 clear L;obtain⟨j,A,rfl,b⟩:=hrel;by_cases l:j<kl
 ·obtain⟨⟨g,rfl,M⟩,n⟩:=t.out q j _ l b.out;have al:(0:Int)<=(j:Int):=by omega
  have am:(j:Int)<(kl:Int):=by omega
  clear i t s b;go_wp2_with fail;refine n.out.mono ?_;rintro e d ⟨rfl,h⟩;go_wp2_with fail;go_roundw
  case rel=>exact⟨j+1,by omega,by go_num,h.out⟩
  case measure=>simp[intOf];omega
 obtain rfl:j=kl:=by omega
 have ad:wr.cell? ⟨q,4,none⟩=some (.int .i64 f):=ab (i.out q _ wr (af (af b.out))) 4;have Y:=aj (s.out q _ b.out);clear b t i s;by_cases N:f=1
 ·subst N;have J:=aj (Y.out.1 rfl);go_wp2_with fail;refine J.out.mono ?_;rintro e d ⟨rfl,h⟩;go_wp2_with fail;exact dM (v:=.tuple #[]) (by simp[results]) rfl ⟨rfl,h.out⟩
 ·have J:=aj (Y.out.2 N);have aF:(f==1)=false:=by simpa using N
  go_wp2_with fail;exact dM (v:=.tuple #[]) (by simp[results]) rfl ⟨rfl,J.out⟩
def pf(M:Nat->Prop)(a:Nat)(d b:gf)(w w':World):Prop:=bi (λq=>d.ow q<0) w w'/\(∀q,q<w.heap.size->¬M q->b.ow q=d.ow q)/\(∀q,q<w.heap.size->M q->0<=b.ow q)/\b.k=d.k/\b.es.length<=d.es.length+a/\b.wn<=d.wn+a/\b.bn<=d.bn+a
section
variable {p:lh} {s:Sy} {d d1 d2:gf} {w w1 w2:World} {M:Nat->Prop} {a b:Nat}
theorem pf.up(m:pf M a d d1 w w1)(k:dG b d1 d2 w1 w2):pf M (a+b) d d2 w w2:=by
 obtain⟨h,i,j,n,q,r,s⟩:=m;obtain⟨o,l,p,u,v,x⟩:=k;have t:=h.size;refine⟨h.trans o λc e g=>?_,λc e f=>(l c (by omega)).trans (i c e f),λc e f=>by rw[l c (by omega)];exact j c e f,p.trans n,by omega,by omega,by omega⟩;by_cases f:M c
 ·have:=j c e f;omega
 ·rw[i c e f]at g;exact g
theorem pf.ad{M':Nat->Prop}(m:pf M a d d1 w w1)(k:Md M' b d1 d2 w1 w2)(o:∀q,M' q->M q):pf M (a+b) d d2 w w2:=by
 obtain⟨h,i,j,n,t,u,v⟩:=m;obtain⟨p,l,r,s,y,z,A⟩:=k;have x:=h.size;refine⟨h.trans p λq e g=>?_,λq e c=>(l q (by omega) λf=>c (o q f)).trans (i q e c),λq e c=>?_,s.trans n,by omega,by omega,by omega⟩
 ·by_cases c:M q
  ·have:=j q e c;omega
  ·rw[i q e c]at g;exact g
 ·by_cases f:M' q
  ·have:=r q f;omega
  ·rw[l q (by omega) f];exact j q e c
theorem pf.mono(c:pf M a d d1 w w1)(l:a<=b):pf M b d d1 w w1:=by
 obtain⟨e,f,g,h,i,j,k⟩:=c;exact⟨e,f,g,h,by omega,by omega,by omega⟩
theorem Et.ug{m:Nat}{x:Tm m}(e:Et d w x)(k:pf M a d d1 w w1):Et d1 w1 x:=by
 have g:=eJ k.1 (D:=λb=>0<=d.ow b/\b<w.heap.size) (λb c f=>by omega) ⟨e.1,In.offB e.2 e.1⟩;refine⟨g.1,g.2.mono λb c=>?_⟩;by_cases f:M b
 ·exact k.2.2.1 b c.2 f
 ·rw[k.2.1 b c.2 f];exact c.1
theorem zQ(a:Int):(l:List (Int×ByteArray×Tc))->(s:Sy)->(l.foldl (λs x=>s.add a x.2.1 x.2.2) s).ps.length=s.ps.length+l.length/\(l.foldl (λs x=>s.add a x.2.1 x.2.2) s).last=s.last+l.length
 | [],s=>by simp
 | x::l,s=>by
  have b:=zQ a l (s.add a x.2.1 x.2.2);rw[fU,b.1,b.2];simp only[Sy.add,Sy.tell,aY,aV,iF];omega
theorem aX.follow(az:aX p s d w){a:Int}(al:dh a)(i:Tk)(a5:yT 8 i.sends i.spawns i.links)(y0 y1:Int)(y2:ByteArray)(ya:Option Addr)(yl yc:Nat){N aw aS c B:Nat}{sa:Option Addr}{sl sc:Nat}{pa:Option Addr}{pl pc:Nat}{ka:Option Addr}{kl kc:Nat}{L:Option Addr}{vl R:Nat}{K:List (Int×Tm (N+1))}{J:List Nat}{av:Nat->Prop}(be:w.ownsRow aw 162 5 (.slice sa sl sc) sl (K.flatMap λg=>LJ g.1 g.2))(a7:w.ownsRow aw 3 1 (.slice ka kl kc) kl (i.links.map λX=> .int .i64 X))(bg:w.ownsRow aS 60 1 (.slice L vl R) vl (J.map yR))(a8:K.length=sl/\i.links.length=kl/\J.length=vl/\i.spawns.length=vl)(an:K.map (λg=>(g.1,cn _ g.2))=i.sends)(bf:∀g∈K,bm _ g.2=0/\Et d w g.2)(ba:∀q,((Value.slice sa sl sc).ownBlock=some q\/(Value.slice ka kl kc).ownBlock=some q\/(Value.slice L vl R).ownBlock=some q)->0<=d.ow q)(a2:lm p.lo p.room (d.k+201) av B w i.spawns J c)(bs:B<=w.heap.size)(how:∀q,c<=q->q<B->d.ow q=0)(a9:s.may vl=true)(bv:d.k<=47000)(bt:d.es.length<=97000)(bC:d.wn<=900000)(bu:d.bn<=900000):ah 47 #[.pointer (some ⟨p.b,0,none⟩),.int .i64 a,M2 y0 y1 y2 ya yl yc i.fate sa sl sc pa pl pc ka kl kc,.slice L vl R] w λe w'=>e=.returned (.tuple #[])/\Hid (∃O,aX p (s.follow a i) O w'/\pf (λq=>c<=q/\q<B) 200 d O w w'):=by
 obtain⟨bh,bD,bE,bF⟩:=a8;obtain⟨⟨ay,bq,br⟩,aY,aZ⟩:=a5;have bA:=IC a9;have bB:sl<=8:=by rw[<-bh];rw[<-an,fA]at ay;exact ay
 have T:∀{D:Type}(l:List D)(g:D)(f:Nat),f<l.length->l[f]?=some (l.getD f g):=λl g f j=>by
  rw[l6,aD j];rfl
 obtain⟨n,ab⟩:∃n:Nat->Int×Tm (N+1),∀f,f<sl->K[f]?=some (n f):=⟨_,λf j=>T K (0,((0,0,⟨#[]⟩),(none,0),[])) f (by omega)⟩;obtain⟨au,ag⟩:∃n:Nat->Int,∀f,f<kl->i.links[f]?=some (n f):=⟨_,λf j=>T i.links 0 f (by omega)⟩;obtain⟨aq,aB⟩:∃n:Nat->Nat,∀f,f<vl->J[f]?=some (n f):=⟨_,λf j=>T J 0 f (by omega)⟩;obtain⟨bl,aF⟩:∃n:Nat->Int×ByteArray×Tc,∀f,f<vl->i.spawns[f]?=some (n f):=⟨_,λf j=>T i.spawns (0,⟨#[]⟩,ve) f (by omega)⟩;have am:∀q,((Value.slice sa sl sc).ownBlock=some q\/(Value.slice ka kl kc).ownBlock=some q\/(Value.slice L vl R).ownBlock=some q)->¬d.ow q<0:=λq g=>by have:=ba q g;omega
 have a3:∀h,bi (λq=>d.ow q<0) w h->∀f,f<sl->∃o,sa=some ⟨o,0,none⟩/\∀(t:Nat)(X:Value),(LJ (n f).1 (n f).2)[t]?=some X->h.cell? ⟨o,f*5+t,none⟩=some X:=λh P f j=>by
  obtain⟨_,_,x,_,C⟩:=qD (aW be P λq g=>am q (ae g)) (by decide) λg=>rfl;injection x with x;subst x;obtain⟨o,z,_,A⟩:=C f _ (ab f j);exact⟨o,z,A⟩
 have a1:∀h,bi (λq=>d.ow q<0) w h->∀f,f<kl->∃o,ka=some ⟨o,0,none⟩/\h.cell? ⟨o,f,none⟩=some (.int .i64 (au f)):=λh P f j=>by
  have Q:=aW a7 P λq g=>am q (af (ae g));rw[List.map_eq_flatMap]at Q;obtain⟨_,_,x,_,C⟩:=qD Q (by decide) λg=>rfl;injection x with x;subst x;obtain⟨o,z,_,A⟩:=C f _ (ag f j);have:=A 0 _ rfl;simp only[Nat.mul_one,iI]at this;exact⟨o,z,this⟩
 have a4:∀h,bi (λq=>d.ow q<0) w h->∀f,f<vl->∃o,L=some ⟨o,0,none⟩/\h.cell? ⟨o,f,none⟩=some (.pointer (some ⟨aq f,0,none⟩)):=λh P f j=>by
  have Q:=aW bg P λq g=>am q (af (af g));rw[List.map_eq_flatMap]at Q;obtain⟨_,_,x,_,C⟩:=qD Q (by decide) λg=>rfl;injection x with x;subst x;obtain⟨o,z,_,A⟩:=C f _ (aB f j);have:=A 0 _ rfl;simp only[Nat.mul_one,iI]at this;exact⟨o,z,this⟩
 have aH:∀{D:Type}{l:List D}{f:Nat}{g:D},l[f]?=some g->l.drop f=g::l.drop (f+1):=λ{D l f g} e=>by
  obtain⟨a0,rfl⟩:=aL.1 e;exact eP a0
 have ao:∀{D:Type}{l:List D}{f:Nat}{g:D},l[f]?=some g->l.take (f+1)=l.take f++ [g]:=λ{D l f g} e=>by
  rw[dt,e];rfl
 obtain⟨U,aK⟩:∃U,U=i.spawns.foldl (λs v=>s.add a v.2.1 v.2.2) s:=⟨_,rfl⟩;obtain⟨V,aM⟩:∃V,V=i.sends.foldl (λs v=>s.send a v.1 v.2) U:=⟨_,rfl⟩;obtain⟨W,aN⟩:∃W,W=i.links.foldl (λs v=>s.link a v) V:=⟨_,rfl⟩;have bd:s.follow a i=if i.fate=1 then W.fin a 1 else W:=by rw[aN,aM,aK];rfl
 let ax:Obj:=.cells #[.int .i64 y0,.int .i64 y1,.string y2,.slice ya yl yc,.int .i64 i.fate,.slice sa sl sc,.slice pa pl pc,.slice ka kl kc] 112;let Z:Nat->Prop:=λq=>c<=q/\q<B;let ar:Sy->Nat->Nat->World->Prop:=λbj k q h=>∃d1,aX p bj d1 h/\pf Z k d d1 w h/\(w.heap.size<=q/\q<h.heap.size/\h.heap[q]?=some ax/\d1.ow q=0)
 refine yx p.b a y0 y1 y2 ya yl yc i.fate sa sl sc pa pl pc ka kl kc L vl R aq (λf=>(n f).1) (λf=>(n f).2.1.1) (λf=>(n f).2.1.2.1) (λf=>(n f).2.1.2.2) (λf=>(n f).2.2.1.1) (λf=>(n f).2.2.2.length) (λf=>(n f).2.2.1.2) au w
  (λq f h=>∃d1,aX p ((i.spawns.take f).foldl (λs v=>s.add a v.2.1 v.2.2) s) d1 h/\pf Z f d d1 w h/\(w.heap.size<=q/\q<h.heap.size/\h.heap[q]?=some ax/\d1.ow q=0)/\∃S,c<=S/\lm p.lo p.room (d.k+201) av B h (i.spawns.drop f) (J.drop f) S/\∀q,S<=q->q<B->d1.ow q=0)
  (λq f h=>ar ((i.sends.take f).foldl (λs v=>s.send a v.1 v.2) U) (vl+2*f) q h) (λq f h=>ar ((i.links.take f).foldl (λs v=>s.link a v) V) (vl+2*sl+f) q h) (λw'=>∃O,aX p (s.follow a i) O w'/\pf Z 200 d O w w') (by omega) (by omega) (by omega) (λq h aj aI aG=>?_) (λq h y=>?_) (λq h y=>?_) (λq f h y=>?_) (λq f h j y=>?_) (λq f h j y=>?_) (λq f h j y=>?_) λq h y=>?_
 ·have bc:=(aA.1 aG).1;refine⟨d,az.later aj,⟨aE aj _,λ_ _ _=>rfl,λq _ g=>by rw[how q g.1 g.2];exact iD 0,rfl,ai _,ai _,ai _⟩,⟨aI,bc,aG,?_⟩,c,ai _,a2.kept (aE aj λ_=>False) (λ_ _ g=>g.elim) (λ_ _ g=>g) (ai _),how⟩;by_cases g:d.ow q=0
  ·exact g
  ·have:=(az.low q g).2;omega
 ·obtain⟨d1,r,m,E,_⟩:=y;rw[bw (by omega),<-aK]at r;exact⟨d1,r,m,E⟩
 ·obtain⟨d1,r,m,E⟩:=y;rw[bw (by rw[<-an,fA];omega),<-aM]at r;exact⟨d1,r,m,E⟩
 ·rcases y with⟨d1,_,_,E,_⟩|⟨d1,_,_,E⟩|⟨d1,_,_,E⟩
  ·exact E.2.2.1
  ·exact E.2.2.1
  ·exact E.2.2.1
 ·obtain⟨d1,r,m,⟨z,F,A,G⟩,S,bG,aP,ap⟩:=y;refine⟨a4 h m.1 f j,?_⟩;rw[aH (aF f j),aH (aB f j)]at aP;obtain⟨aT,aa,bH,aQ,_,aR⟩:=aP;have a6:=zQ a (i.spawns.take f) s;rw[dr]at a6;have bz:=aR.le;have bx:=m.2.2.2.1;refine(r.add a (M:=λq=>aT<=q/\q<aa) (aQ.mono (λ_ g=>g) (by omega) (P1.lie2 aQ)) (λq g=>ap q (by omega) (by omega)) (by omega) (by omega) (by have:=m.2.2.2.2.1;omega)).mono ?_;rintro e w' ⟨rfl,H⟩;obtain⟨d2,I,u⟩:=H.out;have aJ:=u.1.size;refine⟨rfl,d2,?_,m.ad u λq g=>⟨by omega,by omega⟩,⟨z,by omega,?_,?_⟩,aa,by omega,aR.kept2 (c0:=aa) u.1 (λq aI bb g=>?_) (λ_ _ g=>g) (ai _) (ai _),λq bI bk=>?_⟩
  ·rw[ao (aF f j),lZ];exact I
  ·rw[u.1.block q F (by rw[G];decide)];exact A
  ·rw[u.2.1 q F λg=>by omega];exact G
  ·have:=ap q (by omega) bb;omega
  ·have:=m.1.size;rw[u.2.1 q (by omega) λg=>by omega];exact ap q (by omega) bk
 ·obtain⟨d1,r,m,z,F,A,G⟩:=y;obtain⟨o,x,C⟩:=a3 h m.1 f j;refine⟨⟨o,x,C 0 _ rfl,C 1 _ rfl,C 2 _ rfl,C 3 _ rfl,C 4 _ rfl⟩,λbo ak=>?_⟩;obtain⟨aU,aV⟩:=bf _ (aC (ab f j));have aO:i.sends[f]?=some ((n f).1,cn _ (n f).2):=by rw[<-an,dj,ab f j];rfl
  refine((r.later ak).send ⟨al,aY _ (aC aO)⟩ (n f).2 ((aV.ug m).up (dG.later d1 ak)) aU (by have:=m.2.2.2.2.2.1;omega) (by have:=m.2.2.2.2.1;omega)).mono ?_;rintro e w' ⟨rfl,H⟩;obtain⟨d2,I,u⟩:=H.out;have Y:=(dG.later d1 ak).trans u;have aJ:=Y.1.size;refine⟨rfl,d2,?_,(m.up Y).mono (by omega),z,by omega,?_,?_⟩
  ·rw[ao aO,lZ];exact I
  ·rw[Y.1.block q F (by rw[G];decide)];exact A
  ·rw[Y.2.1 q F];exact G
 ·obtain⟨d1,r,m,z,F,A,G⟩:=y;refine⟨a1 h m.1 f j,?_⟩;refine(r.link al (aZ _ (aC (ag f j))) (by have:=m.2.2.2.2.2.2;omega)).mono ?_;rintro e w' ⟨rfl,H⟩;obtain⟨d2,I,u⟩:=H.out;have aJ:=u.1.size;refine⟨rfl,d2,?_,(m.up u).mono (by omega),z,by omega,?_,?_⟩
  ·rw[ao (ag f j),lZ];exact I
  ·rw[u.1.block q F (by rw[G];decide)];exact A
  ·rw[u.2.1 q F];exact G
 ·obtain⟨d1,r,m,z,F,A,G⟩:=y;rw[bw (by omega),<-aN]at r;rw[bd];refine⟨λe=>?_,λe=>⟨d1,by rw[if_neg e];exact r,m.mono (by omega)⟩⟩;refine(r.fin al (by have:=m.2.2.2.2.1;omega)).mono ?_;rintro bp w' ⟨rfl,H⟩;obtain⟨d2,I,u⟩:=H.out;exact⟨rfl,d2,by rw[if_pos e];exact I,(m.up u).mono (by omega)⟩
end
structure T8 where
 y0:Int
 y1:Int
 y2:ByteArray
 ya:Option Addr
 yl:Nat
 yc:Nat
 f:Int
 sa:Option Addr
 sl:Nat
 sc:Nat
 pa:Option Addr
 pl:Nat
 pc:Nat
 ka:Option Addr
 kl:Nat
 kc:Nat
theorem Nx{w:World}{q:Nat}{g:Array Value}{T:TypeId}{fr:Nat×Nat}(h:w.heap[q]?=some (.cells g T fr))(j:g.size=8)(v0 v1 v2 v3 c d e f:Value):((((((((w.setCell ⟨q,0,none⟩ v0).setCell ⟨q,1,none⟩ v1).setCell ⟨q,2,none⟩ v2).setCell ⟨q,3,none⟩ v3).setCell ⟨q,4,none⟩ c).setCell ⟨q,5,none⟩ d).setCell ⟨q,6,none⟩ e).setCell ⟨q,7,none⟩ f).heap[q]?=some (.cells #[v0,v1,v2,v3,c,d,e,f] T fr)/\bi (λb=>b=q) w ((((((((w.setCell ⟨q,0,none⟩ v0).setCell ⟨q,1,none⟩ v1).setCell ⟨q,2,none⟩ v2).setCell ⟨q,3,none⟩ v3).setCell ⟨q,4,none⟩ c).setCell ⟨q,5,none⟩ d).setCell ⟨q,6,none⟩ e).setCell ⟨q,7,none⟩ f):=by
 refine⟨?_,(((((((bt w q 0 v0).trans (bt _ q 1 v1) λ_ _ a=>a).trans (bt _ q 2 v2) λ_ _ a=>a).trans (bt _ q 3 v3) λ_ _ a=>a).trans (bt _ q 4 c) λ_ _ a=>a).trans (bt _ q 5 d) λ_ _ a=>a).trans (bt _ q 6 e) λ_ _ a=>a).trans (bt _ q 7 f) λ_ _ a=>a⟩;obtain⟨l⟩:=g;have i:l.length=8:=by simpa using j
 match l,i with
 | [a0,a1,a2,a3,a4,a5,a6,a7],_=>simp[World.setCell,bC,h]
def Mb(e:T8->Int->World->World->Prop)(w:World)(q:Nat)(t:T8)(g:Int)(d:World):Prop:=
 ∃a c,ag w a/\e t g a c/\(w.heap.size<=q/\(q<a.heap.size\/c.heap.size<=q))/\d.heap[q]?=some (.cells #[.int .i64 t.y0,.int .i64 t.y1,.string t.y2,.slice t.ya t.yl t.yc,.int .i64 t.f,.slice t.sa t.sl t.sc,.slice t.pa t.pl t.pc,.slice t.ka t.kl t.kc] 112)/\bi (λb=>b=q) c d
theorem wM(g:Nat)(Z:Option Nat)(a S Y:Int)(N:Option Addr)(P O:Nat)(aa:Value)(F:Bool)(w:World)(E:T8->Int->World->World->Prop)(M:Nat->T8->World->Prop)(C:Nat->T8->Value->Bool->World->Prop)(R:Int->World->Prop)(aU:IntKind.i64.wrap (S+1)=Y)(a0:g<w.heap.size)(ad:Hid (w.cell? ⟨g,0,none⟩=some (.slice N P O)/\w.cell? ⟨g,2,none⟩=some (.int .i64 S)/\w.cell? ⟨g,3,none⟩=some (.map Z)))(av:(Instr.lookup 62 (.map Z) (.int .i64 a) true).run Tryz.prog w=.ok (.tuple #[aa,.bool F]) w)(J:Hid (F=false->R 4 w))(L:Hid (F=true->∀W,ag w W->ah 43 #[aa,.slice N P O,.int .i64 a,.int .i64 Y] W λe w'=>∃(t:T8)(h:Int),e=.returned (.tuple #[.agg #[.int .i64 t.y0,.int .i64 t.y1,.string t.y2,.slice t.ya t.yl t.yc,.int .i64 t.f,.slice t.sa t.sl t.sc,.slice t.pa t.pl t.pc,.slice t.ka t.kl t.kc],.int .i64 h])/\Hid (E t h W w'/\(∀q,w.heap.size<=q->q<W.heap.size->w'.heap[q]?=W.heap[q]?)/\W.heap.size<=w'.heap.size/\(w'.cell? ⟨g,0,none⟩=some (.slice N P O)/\w'.cell? ⟨g,2,none⟩=some (.int .i64 S)))))(HB:Hid (∀q t h W,Mb E w q t h W->h≠0->R h W))(B:Hid (∀q t W,Mb E w q t 0 W->ah 44 #[.pointer (some ⟨g,0,none⟩),.string ⟨#[116,97,107,101]⟩,.int .i64 a,.int .i64 0,.agg #[.int .i64 t.y0,.int .i64 t.y1,.string t.y2,.slice t.ya t.yl t.yc]] W λe w'=>e=.returned (.tuple #[])/\Hid (M q t w')))(x:Hid (∀q t W,M q t W->ah 45 #[.pointer (some ⟨g,0,none⟩),.slice t.pa t.pl t.pc] W λe w'=>∃v b,e=.returned (.tuple #[v,.bool b])/\Hid (C q t v b w')))(y:Hid (∀q t W,M q t W->W.heap[q]?=some (.cells #[.int .i64 t.y0,.int .i64 t.y1,.string t.y2,.slice t.ya t.yl t.yc,.int .i64 t.f,.slice t.sa t.sl t.sc,.slice t.pa t.pl t.pc,.slice t.ka t.kl t.kc] 112)))(z:Hid (∀q t v b W,C q t v b W->W.heap[q]?=some (.cells #[.int .i64 t.y0,.int .i64 t.y1,.string t.y2,.slice t.ya t.yl t.yc,.int .i64 t.f,.slice t.sa t.sl t.sc,.slice t.pa t.pl t.pc,.slice t.ka t.kl t.kc] 112)))(m:Hid (∀q t v b W,C q t v b W->(t.f=2\/t.f=3)->ah 46 #[.pointer (some ⟨g,0,none⟩),.int .i64 a,.int .i64 t.f] W λe w'=>e=.returned (.tuple #[])/\Hid (R 0 w')))(n:Hid (∀q t v W,C q t v false W->¬(t.f=2\/t.f=3)->ah 46 #[.pointer (some ⟨g,0,none⟩),.int .i64 a,.int .i64 2] W λe w'=>e=.returned (.tuple #[])/\Hid (R 0 w')))(p:Hid (∀q t v W,C q t v true W->¬(t.f=2\/t.f=3)->ah 47 #[.pointer (some ⟨g,0,none⟩),.int .i64 a,.agg #[.int .i64 t.y0,.int .i64 t.y1,.string t.y2,.slice t.ya t.yl t.yc,.int .i64 t.f,.slice t.sa t.sl t.sc,.slice t.pa t.pl t.pc,.slice t.ka t.kl t.kc],v] W λe w'=>e=.returned (.tuple #[])/\Hid (R 0 w'))):ah 26 #[.pointer (some ⟨g,0,none⟩),.int .i64 a] w λe w'=>∃v,e=.returned (.int .i64 v)/\Hid (R v w'):=by
 obtain⟨am,an,ao⟩:=ad.out;go_enter Tryz.func26,Tryz.ntmps26;go_upto_region 2 with fail;cases F
 ·have K:=aj (J.out rfl);clear L J HB B x y z m n p;go_wp2_with fail
  go_ret
  exact⟨4,rfl,K.out⟩
 have V:=aj (L.out rfl);clear L J av ao;have H:Hid (ag w w.drew):=(ak _ _).drew;have I:Hid (∀o,ag w (w.drew.alloc o)):=λo=>(ak _ _).drew.alloc (ai _) o;have aV:¬(w.heap.size=g):=by omega
 have aW:¬(g=w.heap.size):=by omega
 go_upto_region 4 with fail;go_cut [7,8] (λaw ay aA=>∃(q:Nat)(t:T8)(h:Int),aw=.pointer (some ⟨q,0,none⟩)/\ay=.int .i64 h/\Hid (Mb E w q t h aA))
 case first=>
  clear HB B x y z m n p
  go_region_with ((first
   | (go_at_call 43;refine(V.out _ (by first|exact H.out|exact I.out _)).mono ?_;rintro e c ⟨t,h,rfl,r⟩;have aZ:g<c.heap.size:=(by have:=r.out.2.2.1;simp at this;omega);have aX:¬(c.heap.size=g):=(by omega);have aY:¬(g=c.heap.size):=(by omega);obtain⟨a2,a3⟩:=r.out.2.2.2;(first|(have d:c.heap[w.heap.size]?=some (.cells #[.int .i64 0,.int .i64 0,.string ⟨#[]⟩,.slice none 0 0,.int .i64 0,.slice none 0 0,.slice none 0 0,.slice none 0 0] 112):=((r.out.2.1 w.heap.size (ai _) (by simp)).trans (ax w.drew _));obtain⟨a4,a5,a6,a7,a8,a9,ba,bb⟩:c.cell? ⟨w.heap.size,0,none⟩=some (.int .i64 0)/\c.cell? ⟨w.heap.size,1,none⟩=some (.int .i64 0)/\c.cell? ⟨w.heap.size,2,none⟩=some (.string ⟨#[]⟩)/\c.cell? ⟨w.heap.size,3,none⟩=some (.slice none 0 0)/\c.cell? ⟨w.heap.size,4,none⟩=some (.int .i64 0)/\c.cell? ⟨w.heap.size,5,none⟩=some (.slice none 0 0)/\c.cell? ⟨w.heap.size,6,none⟩=some (.slice none 0 0)/\c.cell? ⟨w.heap.size,7,none⟩=some (.slice none 0 0):=⟨ab d 0,ab d 1,ab d 2,ab d 3,ab d 4,ab d 5,ab d 6,ab d 7⟩;have aC:c.frozen? ⟨w.heap.size,0,none⟩=false:=(by simp[World.frozen?,d]);have aD:c.frozen? ⟨w.heap.size,1,none⟩=false:=(by simp[World.frozen?,d]);have aF:c.frozen? ⟨w.heap.size,2,none⟩=false:=(by simp[World.frozen?,d]);have aG:c.frozen? ⟨w.heap.size,3,none⟩=false:=(by simp[World.frozen?,d]);have aH:c.frozen? ⟨w.heap.size,4,none⟩=false:=(by simp[World.frozen?,d]);have aI:c.frozen? ⟨w.heap.size,5,none⟩=false:=(by simp[World.frozen?,d]);have aJ:c.frozen? ⟨w.heap.size,6,none⟩=false:=(by simp[World.frozen?,d]);have aK:c.frozen? ⟨w.heap.size,7,none⟩=false:=(by simp[World.frozen?,d]);have al:=aj d;clear d)|skip))))
  all_goals (go_wp2_with fail;go_meet)
  all_goals (refine⟨_,t,h,rfl,rfl,?_⟩)
  all_goals (first
   | exact⟨_,c,H.out,r.out.1,⟨by have:=r.out.2.2.1;simpa using this,af (ai _)⟩,ax _ _,aE ((ak _ _).alloc (ai _) _) _⟩
   | exact⟨_,c,I.out _,r.out.1,⟨ai _,ae (by simp)⟩,Nx al.out rfl _ _ _ _ _ _ _ _⟩)
 case rest=>
 obtain⟨q,t,h,rfl,rfl,A⟩:=hcut;clear V H I am an;by_cases Q:h=0;rotate_left
 ·have K:=aj (HB.out _ _ _ _ A.out Q);have a1:(h==0)=false:=by simpa using Q
  clear A HB B x y z m n p;go_wp2_with fail
  go_ret
  exact⟨h,rfl,K.out⟩
 subst Q;have X:=aj (B.out _ _ _ A.out);obtain⟨_,_,_,_,_,D,_⟩:=A.out;have ap:wc.cell? ⟨q,0,none⟩=some (.int .i64 t.y0):=ab D 0;have d1:wc.cell? ⟨q,1,none⟩=some (.int .i64 t.y1):=ab D 1;have aq:wc.cell? ⟨q,2,none⟩=some (.string t.y2):=ab D 2;have ar:wc.cell? ⟨q,3,none⟩=some (.slice t.ya t.yl t.yc):=ab D 3;clear D A HB B;go_wp2_with fail;refine X.out.mono ?_;rintro e az ⟨rfl,G⟩;have U:=aj (x.out _ _ _ G.out);have au:az.cell? ⟨q,6,none⟩=some (.slice t.pa t.pl t.pc):=ab (y.out _ _ _ G.out) 6;clear X x y G ap d1 aq ar;go_wp2_with fail;refine U.out.mono ?_;rintro e j ⟨v,b,rfl,k⟩;have i:=aj (z.out _ _ _ _ _ k.out);have aB:j.cell? ⟨q,4,none⟩=some (.int .i64 t.f):=ab i.out 4;clear au U z;by_cases u:t.f=2\/t.f=3
 ·have s:=aj (m.out _ _ _ _ _ k.out u);clear n p m k i;generalize t.f=f at*;rcases u with rfl|rfl
  ·go_wp2_with fail;refine s.out.mono ?_;rintro e T ⟨rfl,l⟩;go_wp2_with fail
   go_ret
   exact⟨0,rfl,l.out⟩
  ·go_wp2_with fail;refine s.out.mono ?_;rintro e T ⟨rfl,l⟩;go_wp2_with fail
   go_ret
   exact⟨0,rfl,l.out⟩
 have aS:(t.f==2)=false:=by simpa using λe=>u (ae e)
 have aT:(t.f==3)=false:=by simpa using λe=>u (af e)
 cases b
 ·have s:=aj (n.out _ _ _ _ k.out u);clear n p m k i;go_wp2_with fail;refine s.out.mono ?_;rintro e T ⟨rfl,l⟩;go_wp2_with fail
  go_ret
  exact⟨0,rfl,l.out⟩
 ·have s:=aj (p.out _ _ _ _ k.out u);have aL:j.cell? ⟨q,0,none⟩=some (.int .i64 t.y0):=ab i.out 0;have aM:j.cell? ⟨q,1,none⟩=some (.int .i64 t.y1):=ab i.out 1;have aN:j.cell? ⟨q,2,none⟩=some (.string t.y2):=ab i.out 2;have aO:j.cell? ⟨q,3,none⟩=some (.slice t.ya t.yl t.yc):=ab i.out 3;have aP:j.cell? ⟨q,5,none⟩=some (.slice t.sa t.sl t.sc):=ab i.out 5;have aQ:j.cell? ⟨q,6,none⟩=some (.slice t.pa t.pl t.pc):=ab i.out 6;have aR:j.cell? ⟨q,7,none⟩=some (.slice t.ka t.kl t.kc):=ab i.out 7;clear n p m k i;go_wp2_with fail;refine s.out.mono ?_;rintro e T ⟨rfl,l⟩;go_wp2_with fail
  go_ret
  exact⟨0,rfl,l.out⟩
end Go.Proofs.YtckamaoibonjcaaGreat
