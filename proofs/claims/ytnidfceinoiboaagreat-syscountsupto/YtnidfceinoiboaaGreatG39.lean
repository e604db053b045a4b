/- What is proved here: plain facts and contracts that the claimed theorem stands on. No condition but those that each names. -/
import Derived.Test.YtnidfceinoiboaaGreatG38
import Derived.Deep.DeepCutAuto
namespace Go.Proofs.YtnidfceinoiboaaGreat
open Go.RowKit
set_option maxHeartbeats 4000000
set_option maxRecDepth 100000
theorem cv{g d:Type}{f:g->d->Bool}{p:List g}{b:d}{q:List d}(c:av f p (b::q)=true):∃a e,p=a::e/\f a b=true/\av f e q=true:=by
 cases p with
 | nil=>simp[av]at c
 | cons a p=>
  simp only[av,az]at c;exact⟨a,p,rfl,c.1,c.2⟩
theorem lE{a b:Type}{f:a->b->Bool}{p:List a}(c:av f p ([]:List b)=true):p=[]:=by
 cases p with
 | nil=>rfl
 | cons d p=>simp[av]at c
theorem GD{n m:Nat}{x:Tm n}{y:Tm (m+1)}(a:aw n x (m+1) y=true):(iv n x).1=y.1:=(CQ a).1
theorem mq{N n:Nat}{x:Tm (N+1)}{c:ByteArray}{ys:List (Tm (n+1))}(k:aw (N+1) x (n+2) (cM (n+1) (aQ c n::ys))=true):eJ N x=c/\av (λa b=>aw N a (n+1) b) (bB N x) ys=true:=by
 obtain⟨l,m⟩:=bq k;obtain⟨a,q,g,h,o⟩:=cv m;have d:x.1.1=4:=by rw[l];rfl
 have e:=GD h;have i:bE ⟨N,a⟩=2:=by
  cases N with
  | zero=>simp[aw]at h
  | succ N=>
   have:a.1.1=2:=by
    have j:a.1=(2,0,c):=e;rw[j]
   exact this
 have f:x.2.2[0]?=some a:=by rw[g];rfl
 have p:x.2.2.drop 1=q:=by rw[g];rfl
 constructor
 ·simp only[eJ,d,cI,f,i];rw[e];rfl
 ·simp only[bB,d,cI,f,i,p];exact o
theorem km(a:ByteArray):rq a a=true:=by simp[rq]
theorem rY{m e:Type}{n:Nat}{f:Tm n->Option m}{R:Tm n->e->Prop}{Q:m->e->Prop}(g:∀y b,R y b->∃z,f y=some z/\Q z b):(q:List (Tm n))->(l:List e)->dz R q l->∃a,cF f q=some a/\dz Q a l
 | [],[],_=>⟨[],rfl,dz.nil⟩
 | [],_::_,h=>by have:=h.1;simp at this
 | _::_,[],h=>by have:=h.1;simp at this
 | y::q,b::l,h=>by
  obtain⟨z,o,k⟩:=g y b h.tail.1;obtain⟨a,p,j⟩:=rY g q l h.tail.2;refine⟨z::a,by simp[cF,o,p],by simp[j.1],λi u v c d=>?_⟩;cases i with
  | zero=>
   simp at c d;subst c d;exact k
  | succ i=>exact j.2 i u v (by simpa using c) (by simpa using d)
theorem kN{e:Type}{n m:Nat}(g:e->Tm m):(q:List (Tm n))->(l:List e)->av (λa b=>aw n a m b) q (l.map g)=true->dz (λy b=>aw n y m (g b)=true) q l
 | [],[],_=>dz.nil
 | [],_::_,h=>by simp[av]at h
 | _::_,[],h=>by simp[av]at h
 | y::q,b::l,h=>by
  simp only[aH,av,az]at h;have ih:=kN g q l h.2;refine⟨by simp[ih.1],λi u v c d=>?_⟩;cases i with
  | zero=>
   simp at c d;subst c d;exact h.1
  | succ i=>exact ih.2 i u v (by simpa using c) (by simpa using d)
theorem jE{a s:ByteArray}(b:a.toList≠s.toList):rq a s=false:=by simpa [rq]using b
theorem KA(M N n:Nat)(a:Ac (n+1))(y:Tm N)(b:aw N y (n+2) (de n a)=true):∃z,qK M N y=some z:=by
 cases N with
 | zero=>simp[aw]at b
 | succ N=>
 have i:iP.toList=[115,101,110,100]:=jA [115,101,110,100];have j:jj.toList=[115,112,97,119,110]:=jA [115,112,97,119,110];have k:mA.toList=[108,105,110,107]:=jA [108,105,110,107];have l:mB.toList=[115,116,111,112]:=jA [115,116,111,112];unfold de at b;split at b
 ·obtain⟨c,d⟩:=mq b;obtain⟨s,t,f,r,h⟩:=cv d;obtain⟨C,D,o,A,q⟩:=cv h;have p:=lE q;subst o p;simp only[qK,jg,c,f,km];exact⟨_,rfl⟩
 split at b
 ·obtain⟨c,d⟩:=mq b;obtain⟨s,t,f,r,h⟩:=cv d;obtain⟨C,D,o,A,q⟩:=cv h;obtain⟨E,F,p,B,v⟩:=cv q;have g:=lE v;subst o p g;have w:bE ⟨N,s⟩=2:=by rw[jH r];rfl
  have x:bE ⟨N,E⟩=5:=by rw[jH B];rfl
  have e:rq jj iP=false:=jE (by rw[i,j];decide);simp only[qK,jg,c,f,km,e,Bool.false_and,ed];simp[xb,w,x]
 split at b
 ·obtain⟨c,d⟩:=mq b;obtain⟨s,t,f,r,h⟩:=cv d;have g:=lE h;subst g;have e:rq mA iP=false:=jE (by rw[i,k];decide);have m:rq mA jj=false:=jE (by rw[j,k];decide);simp only[qK,jg,c,f,km,e,m,Bool.false_and,ed];simp
 ·obtain⟨c,d⟩:=mq b;have g:=lE d;have e:rq mB iP=false:=jE (by rw[i,l];decide);have m:rq mB jj=false:=jE (by rw[j,l];decide);have u:rq mB mA=false:=jE (by rw[k,l];decide);simp only[qK,jg,c,g,km,e,m,u,Bool.false_and,ed];simp
theorem KC(M N n:Nat)(c:Cl (n+1))(y:Tm N)(e:aw N y (n+4) (eD n c)=true):∃z,wZ M N y=some z:=by
 cases N with
 | zero=>simp[aw]at e
 | succ N=>
 obtain⟨m,o⟩:=mq e;obtain⟨B,G,h,D,p⟩:=cv o;obtain⟨C,H,i,E,q⟩:=cv p;obtain⟨a,I,j,d,r⟩:=cv q;obtain⟨t,J,k,F,s⟩:=cv r;have l:=lE s;subst i j k l;have u:bE ⟨N,a⟩=4:=by rw[jH d];rfl
 cases N with
 | zero=>simp[aw]at d
 | succ N=>
 obtain⟨g,x,_⟩:=rY (f:=qK M N) (R:=λy b=>aw N y (n+2) (de n b)=true) (Q:=λ_ _=>True) (λy b v=>by
  obtain⟨z,w⟩:=KA M N n b y v
  exact⟨z,w,trivial⟩) a.2.2 c.2.2 (kN (de n) _ _ (bq d).2)
 have A:cF (qK M (N+1-1)) (Cg (N+1) a)=some g:=x;refine⟨((aI (M+1) (N+1) B,aI (M+1) (N+1) C,aI (M+1) (N+1) t),(none,0),g),?_⟩;show qL M (N+1) (eJ (N+1) y) (bB (N+1) y)=_;rw[m,h];unfold qL;rw[if_pos (by rw[km];rfl)];show (if bE ⟨N+1,a⟩=4 then (cF (qK M (N+1-1)) (Cg (N+1) a)).map _ else none)=_;rw[if_pos u,A];rfl
theorem KB(M N n:Nat)(b:Bh (n+1))(y:Tm N)(a:aw N y (n+5) (ek n b)=true):∃z,wY M N y=some z/\z.2.2.length=b.2.2.length:=by
 cases N with
 | zero=>simp[aw]at a
 | succ N=>
 obtain⟨e,g⟩:=mq a;obtain⟨c,p,d,o,h⟩:=cv g;have i:bE ⟨N,c⟩=2:=by rw[jH o];rfl
 obtain⟨q,m,j⟩:=rY (f:=wZ M N) (R:=λy b=>aw N y (n+4) (eD n b)=true) (Q:=λ_ _=>True) (λy b k=>by
  obtain⟨z,l⟩:=KC M N n b y k
  exact⟨z,l,trivial⟩) p b.2.2 (kN (eD n) _ _ h)
 refine⟨(vg N c,(none,0),q),?_,j.1⟩;simp only[wY,rN,e,d,km];simp[i,m]
theorem KD(M N n:Nat)(p:N<=M+1)(l:List (Bh (n+1)))(d:jy (n+1) l=true)(x:Tm N)(q:aB ⟨N,x⟩)(h:aw N x (n+6) (cR n l)=true):∃z,zy M N x=some z/\jy (M+1) z=true/\z.length=l.length:=by
 cases N with
 | zero=>simp[aw]at h
 | succ N=>
 obtain⟨m,o⟩:=mq h;obtain⟨g,t,a⟩:=rY (f:=wY M N) (R:=λe b=>aw N e (n+5) (ek n b)=true) (Q:=λz b=>z.2.2.length=b.2.2.length) (λe b r=>KB M N n b e r) (bB N x) l (kN (ek n) _ _ o);have k:zy M (N+1) x=some g:=by
  simp only[zy,m,km];simpa using t
 refine⟨g,k,?_,a.1⟩;rw[(zB M (N+1) p x q g k).2];simp only[jy,sI,az,bN,bS]at d ⊢;refine⟨by rw[a.1];exact d.1.1,λz s=>?_⟩;obtain⟨c,i⟩:=cB s;have j:c<l.length:=by have:=(aK.1 i).1;rw[<-a.1];exact this
 have:=a.2 c z l[c] i (aA j);rw[this];exact(d.2 l[c] (iS j)).1.1.2
def Cs(M:Nat)(o:Option (List (Bh (M+1)))):Int:=match o with|some l=>if jy (M+1) l=true then 0 else 5|none=>5
def FJ(M n:Nat)(x:Tm n):Int:=if bA n x=0 then Cs M (zy M n x)else bA n x
def rX(M:Nat)(E:Int)(o:Option (List (Bh (M+1))))(w:World)(e:Ending)(w':World):Prop:=
 ∃(l:List (Bh (M+1)))(a:Option Addr)(c:Nat),e=.returned (.tuple #[.slice a l.length c,.int .i64 E])/\Hid (Below w.heap.size w w'/\(l.length<=c/\c<=maxLen)/\fx (M+1) w'.heap.size w' a l/\rJ (jl (M+1) (λb=>w.heap.size<=b)) (λb=>w.heap.size<=b) a l/\(¬E=0->l=[])/\(E=0->∃d,o=some d/\dz (sJ (M+1)) l d))
theorem qC{M:Nat}{E:Int}{o:Option (List (Bh (M+1)))}{w w':World}(a:¬E=0)(c:Below w.heap.size w w'):rX M E o w (.returned (.tuple #[.slice none 0 0,.int .i64 E])) w':=
 ⟨[],none,0,rfl,c,⟨ag _,aD _⟩,ae rfl,ae rfl,λ_=>rfl,λb=>(a b).elim⟩
theorem Dw(M:Nat)(k u:Int)(s:ByteArray)(a:Option Addr)(l c:Nat)(w:World)(g:Int)(o:Option (List (Bh (M+1))))(E:Int)(J:Hid (E=if g=0 then Cs M o else g))(Q:Hid (∀w1,Below w.heap.size w w1->Calls Tryz.prog 42 #[.agg #[.int .i64 k,.int .i64 u,.string s,.slice a l c]] w1 λe w'=>e=.returned (.int .i64 g)/\Below w1.heap.size w1 w'))(H:Hid (g=0->∀w1,Below w.heap.size w w1->Calls Tryz.prog 53 #[.agg #[.int .i64 k,.int .i64 u,.string s,.slice a l c]] w1 (sC M o w1))):Calls Tryz.prog 27 #[.agg #[.int .i64 k,.int .i64 u,.string s,.slice a l c]] w (rX M E o w):=by
 go_enter Tryz.func27,Tryz.ntmps27;go_wp2_with fail;refine(Q.out _ aG).mono ?_;rintro e w1 ⟨rfl,L⟩;have q:Hid (Below w.heap.size w w1):=aG.trans (L.mono (by simp));have m:=ai (pA w _ _ _ _ _ L);clear L Q;by_cases B:g=0
 ·subst B;have S:=ai (H.out (by simp) w1 q.out);have X:w1.cell? ⟨w.heap.size,0,none⟩=some (.int .i64 k):=am m.out 0;have Y:w1.cell? ⟨w.heap.size,1,none⟩=some (.int .i64 u):=am m.out 1;have Z:w1.cell? ⟨w.heap.size,2,none⟩=some (.string s):=am m.out 2;have aa:w1.cell? ⟨w.heap.size,3,none⟩=some (.slice a l c):=am m.out 3;have aj:w.heap.size<w1.heap.size:=(aE.1 m.out).1;have D:=ai (show E=Cs M o by simpa using J.out);clear H J;go_wp2_with fail;refine S.out.mono ?_;rintro e z ⟨p,x,A,af,rfl,j⟩;obtain⟨t,K⟩:∃t,p.length=t:=⟨_,rfl⟩;rw[K];have G:=ai K;have r:Hid (Below w.heap.size w z):=q.out.trans (j.out.1.mono q.out.size);clear K S X Y Z aa m;cases af
  ·have i:Hid (E=5):=by
     show E=5;rw[D.out];have d:=j.out.2.1;cases o with
     | none=>rfl
     | some f=>cases d
   have W:Hid (rX M E o w (.returned (.tuple #[.slice none 0 0,.int .i64 5])) z):=by
    have d:=qC (M:=M) (E:=E) (o:=o) (by rw[i.out];omega) r.out;rw[i.out]at d;rw[i.out];exact d
   go_wp2_with fail;exact ao (v:=.tuple #[.slice none 0 0,.int .i64 5]) (by simp[results,Tryz.results27,go_sem]) rfl W.out
  ·have F:Hid (∀h,Below z.heap.size z h->Calls Tryz.prog 51 #[.slice x t A] h λe w'=>e=.returned (.bool (jy (M+1) p))/\Below h.heap.size h w'):=λh T=>
     ov M p t G.out x A z.heap.size h (fx.below T j.out.2.2.2.1) (by have:=j.out.2.2.1;have:=G.out;unfold maxLen at*;omega) T.size
   obtain⟨b,y⟩:∃b,jy (M+1) p=b:=⟨_,rfl⟩;rw[y]at F;have R:=ai y;clear y;have I:Hid (∃f,o=some f/\dz (sJ (M+1)) p f):=by
    have d:=j.out.2.1;cases o with
    | none=>cases d
    | some f=>exact⟨f,rfl,j.out.2.2.2.2.2 f rfl⟩
   cases b
   ·have i:Hid (E=5):=by
      show E=5;obtain⟨f,O,N⟩:=I.out;rw[D.out,O];show (if jy (M+1) f=true then (0:Int)else 5)=5;rw[<-CJ N,R.out];rfl
    go_wp2_with (go_at_call 51;refine(F.out _ (ah _ _)).mono ?_;rintro e h ⟨rfl,n⟩;have C:=ai (r.out.trans (n.mono r.out.size));clear n);refine ao (v:=.tuple #[.slice none 0 0,.int .i64 5]) (by simp[results,Tryz.results27,go_sem]) rfl ?_;have d:=qC (M:=M) (E:=E) (o:=o) (by rw[i.out];omega) C.out;rw[i.out]at d;rw[i.out];exact d
   ·have U:Hid (E=0):=by
      show E=0;obtain⟨f,O,N⟩:=I.out;rw[D.out,O];show (if jy (M+1) f=true then (0:Int)else 5)=0;rw[<-CJ N,R.out];rfl
    go_wp2_with (go_at_call 51;refine(F.out _ (ah _ _)).mono ?_;rintro e h ⟨rfl,n⟩;have P:=ai n;have C:=ai (r.out.trans (n.mono r.out.size));clear n);refine ao (v:=.tuple #[.slice x t A,.int .i64 0]) (by simp[results,Tryz.results27,go_sem]) rfl ?_;obtain⟨ak,al,ab,ad,ae,an⟩:=j.out;rw[U.out];exact⟨p,x,A,by rw[G.out],C.out,ab,(fx.below P.out ad).mono P.out.size,(bZ (dH _) 2 (nr (M+1)) x).1 _ _ _ (λb y=>au q.out.size y) ae,λd=>(d rfl).elim,λ_=>I.out⟩
 ·have ag:(g !=0)=true:=by simpa using B
  have V:Hid (E=g):=by
   show E=g;rw[J.out,if_neg B]
  clear H m;go_wp2_with fail;refine ao (v:=.tuple #[.slice none 0 0,.int .i64 g]) (by simp[results,Tryz.results27,go_sem]) rfl ?_;rw[V.out];exact qC B q.out
theorem FK(M n:Nat)(g:n<=M+1)(x:Tm n)(B:Nat)(w:World)(c:In B w n x)(f:(aq n x).length<=2097152)(b:B<=w.heap.size):Calls Tryz.prog 27 #[dg n x] w (rX M (FJ M n x) (zy M n x) w):=by
 cases n with
 | zero=>exact c.elim
 | succ n=>
 exact Dw M x.1.1 x.1.2.1 x.1.2.2 x.2.1.1 x.2.2.length x.2.1.2 w (bA (n+1) x) _ _ rfl (λd a=>dL (n+1) x B d (c.below (a.mono b)) (au b a.size) f) (λe d a=>xo M (n+1) g x B d (c.below (a.mono b)) (aJ.2 (bv.1 e).1) (au b a.size))
theorem sO{n:Nat}{x:Tm n}(a:bA n x=0):aB ⟨n,x⟩:=aJ.2 (bv.1 a).1
theorem iL{n:Nat}{p:List (Bh (n+1))}(b:mz n p=0):jy (n+1) p=true/\bA (n+6) (cR n p)=0/\G5 n p=cR n p:=by
 have a:=b;unfold mz at a;split at a
 ·rename_i c;exact⟨c,a,by unfold G5;rw[if_pos b]⟩
 ·omega
theorem KN{n:Nat}{p:List (Bh (n+1))}(a:jy (n+1) p=true)(k:bA (n+6) (cR n p)=0):mz n p=0:=by
 unfold mz;rw[if_pos a];exact k
theorem ED{n:Nat}{l r:List (Bh (n+1))}(a:dz (sJ (n+1)) l r):mz n l=mz n r:=by
 unfold mz;rw[CJ a,bI (tM a)]
theorem Eg{M n:Nat}(h:n<=M+1){x:Tm n}(d:bA n x=0){z l:List (Bh (M+1))}(i:zy M n x=some z)(e:dz (sJ (M+1)) l z)(g:jy (M+1) z=true):jy (M+1) l=true/\mz M l=0/\aw (M+6) (G5 M l) n x=true/\(aq (M+6) (cR M l)).length=(aq n x).length:=by
 have f:=zB M n h x (sO d) z i;have b:jy (M+1) l=true:=(CJ e).trans g;have a:aw (M+6) (cR M l) n x=true:=bP _ _ _ _ _ _ (tM e) f.1;have c:mz M l=0:=KN b ((bI a).trans d);exact⟨b,c,by rw[(iL c).2.2];exact a,jI _ _ _ _ a⟩
theorem EF{n:Nat}{p:List (Bh (n+1))}(h:mz n p=0){y:Tm (n+6)}(a:aw (n+6) y (n+6) (G5 n p)=true):bA (n+6) y=0/\FJ (n+5) (n+6) y=0/\∀z l,zy (n+5) (n+6) y=some z->dz (sJ (n+6)) l z->jy (n+6) l=true/\mz (n+5) l=0/\aw (n+11) (G5 (n+5) l) (n+6) (G5 n p)=true/\l.length=p.length/\(aq (n+11) (cR (n+5) l)).length=(aq (n+6) (cR n p)).length:=by
 obtain⟨i,j,e⟩:=iL h;rw[e]at a;have b:bA (n+6) y=0:=(bI a).trans j;obtain⟨z,d,g,k⟩:=KD (n+5) (n+6) n (ag _) p i y (sO b) a;refine⟨b,?_,λs l c f=>?_⟩
 ·unfold FJ;rw[if_pos b,d];unfold Cs;simp only[g,cI]
 ·rw[d]at c;injection c with c;subst c;obtain⟨m,o,q,r⟩:=Eg (ag _) b d f g;exact⟨m,o,by rw[e];exact bP _ _ _ _ _ _ q a,f.1.trans k,by rw[r];exact jI _ _ _ _ a⟩
def ld(lo:Nat)(room:Int)(K:Nat)(e:Nat->Prop)(B:Nat)(w:World):List (Int×ByteArray×Tc)->List Nat->Nat->Prop
 | [],[],c=>c<=B
 | x::l,b::bs,c=>∃a d,(c<=a/\a<=d)/\P1 lo b x.2.1 room x.2.2 [] K (λq=>a<=q/\q<d) w/\(∀q,a<=q->q<d->¬e q)/\ld lo room K e B w l bs d
 | _,_,_=>False
section
variable {lo K:Nat} {room:Int} {X:Nat->Prop} {B:Nat} {w:World}
theorem ld.le:{l:List (Int×ByteArray×Tc)}->{a:List Nat}->{c:Nat}->ld lo room K X B w l a c->c<=B
 | [],[],_,h=>h
 | [],_::_,_,h=>h.elim
 | _::_,[],_,h=>h.elim
 | _::_,_::_,_,⟨c1,c2,h1,_,_,h4⟩=>by have:=h4.le;omega
theorem ld.kept2{w':World}{S e:Nat->Prop}{d c0:Nat}(a:bf S w w')(i:∀q,c0<=q->q<B->S q->X q)(j:∀q,q<B->e q->X q)(g:B<=d):{l:List (Int×ByteArray×Tc)}->{f:List Nat}->{c:Nat}->c0<=c->ld lo room K X B w l f c->ld lo room K e d w' l f c
 | [],[],_,_,h=>au h g
 | [],_::_,_,_,h=>h.elim
 | _::_,[],_,_,h=>h.elim
 | _::_,_::_,_,hc,⟨c1,c2,h1,h2,h3,h4⟩=>by
  have n:=h4.le;exact⟨c1,c2,h1,h2.kept (S:=S) ⟨a.os,a.tape,a.output,a.size,a.block⟩ λb q z=>h3 b q.1 q.2 (i b (by omega) (by omega) z),λq k m z=>h3 q k m (j q (by omega) z),h4.kept2 a i j g (by omega)⟩
theorem ld.kept{w':World}{S b:Nat->Prop}{a:Nat}(i:bf S w w')(g:∀q,q<B->S q->X q)(h:∀q,q<B->b q->X q)(f:B<=a){l:List (Int×ByteArray×Tc)}{d:List Nat}{c:Nat}(e:ld lo room K X B w l d c):ld lo room K b a w' l d c:=e.kept2 (c0:=0) i (λq _=>g q) h f (aD _)
theorem ld.snoc{a B2 e b:Nat}{x:Int×ByteArray×Tc}(g:B<=a)(d:a<=B2/\B2<=e)(i:P1 lo b x.2.1 room x.2.2 [] K (λq=>a<=q/\q<B2) w)(j:∀q,a<=q->q<B2->¬X q):{l:List (Int×ByteArray×Tc)}->{f:List Nat}->{c:Nat}->ld lo room K X B w l f c->ld lo room K X e w (l++ [x]) (f++ [b]) c
 | [],[],_,h=>⟨a,B2,⟨au h g,d.1⟩,i,j,d.2⟩
 | [],_::_,_,h=>h.elim
 | _::_,[],_,h=>h.elim
 | _::_,_::_,_,⟨c1,c2,h1,h2,h3,h4⟩=>⟨c1,c2,h1,h2,h3,h4.snoc g d i j⟩
end
section
variable {p:lT} {s:Sy} {d:fW} {w:World}
theorem IW{n:Nat}{x:Tm n}(room:Int)(nm:ByteArray)(b:bA n x=0):eZ 13 (cn n x) room nm=eZ n x room nm:=by
 have a:=eL b;unfold eZ iG;rw[bI a,cw _ _ _ _ a,kO _ _ _ _ a]
theorem aV.made(y:aV p s d w){N ad:Nat}{pa:Option Addr}{pl pc:Nat}{r:List (Int×ByteArray×Tm (N+1))}(aB:w.ownsRow ad 150 6 (.slice pa pl pc) pl (r.flatMap λz=>KI z.1 z.2.1 z.2.2))(au:r.length=pl)(Y:pl<=1000)(aD:∀z∈r,bA _ z.2.2=0/\In w.heap.size w _ z.2.2):Calls Tryz.prog 36 #[.pointer (some ⟨p.b,0,none⟩),.slice pa pl pc] w λe w'=>∃v b,e=.returned (.tuple #[v,.bool b])/\Hid (Below w.heap.size w w'/\b=s.made p.n p.prog p.room (r.map λz=>(z.1,z.2.1,cn _ z.2.2))/\(b=true->∃l a c,v=.slice a pl c/\l.length=pl/\w'.ownsRow w.heap.size 65 1 v pl (l.map xI)/\ld p.lo p.room (d.k+201) (λq=>v.ownBlock=some q) w'.heap.size w' (r.map λz=>(z.1,z.2.1,cn _ z.2.2)) l w.heap.size)):=by
 have aw:jy (p.n+1) p.prog=true:=(iL y.pg.2.2.2.1).1;obtain⟨aO,O,ae,_,an⟩:=pS aB (by decide) λz=>rfl;injection ae with ai aQ aP;subst ai;have F:∀f,f<pl->r[f]?=some (r.getD f (0,⟨#[]⟩,((0,0,⟨#[]⟩),(none,0),[]))):=λf h=>by
  rw[nT,aA (by omega)];rfl
 generalize T:(λf=>r.getD f (0,⟨#[]⟩,((0,0,⟨#[]⟩),(none,0),[])))=g;have F:∀f,f<pl->r[f]?=some (g f):=λf h=>by rw[F f h,<-T]
 clear T;obtain⟨m,J⟩:∃m,m=r.map λz=>(z.1,z.2.1,cn _ z.2.2):=⟨_,rfl⟩;rw[<-J];have U:m.length=pl:=by rw[J,dO,au]
 have K:∀f,f<pl->m[f]?=some ((g f).1,(g f).2.1,cn _ (g f).2.2):=λf h=>by rw[J,dh,F f h];rfl
 have W:∀f,f<pl->bA _ (g f).2.2=0/\In w.heap.size w _ (g f).2.2:=λf h=>aD _ (ay (F f h));have X:∀f,f<pl->eZ 13 (cn _ (g f).2.2) p.room (g f).2.1=eZ _ (g f).2.2 p.room (g f).2.1:=λf h=>IW _ _ (W f h).1;have aE:∀f,f<pl->m.take (f+1)=m.take f++ [((g f).1,(g f).2.1,cn _ (g f).2.2)]:=λf h=>by
  rw[dw,K f h];rfl
 refine DL p.b pa pl pc (s.may pl) p.room w (λf=>(g f).1) (λf=>(g f).2.2.1.1) (λf=>(g f).2.2.1.2.1) (λf=>(g f).2.1) (λf=>(g f).2.2.1.2.2) (λf=>(g f).2.2.2.1.1) (λf=>(g f).2.2.2.2.length) (λf=>(g f).2.2.2.1.2) (λf=>mR p.n p.prog (g f).2.1) (λf=>eZ _ (g f).2.2 p.room (g f).2.1) (λf l v i=>ld p.lo p.room (d.k+201) (λq=>v.ownBlock=some q) i.heap.size i (m.take f) l w.heap.size/\∀q,v.ownBlock=some q->q<i.heap.size)
  (λf G l v i=>∃u,(w.heap.size<=u/\u<=i.heap.size)/\(ld p.lo p.room (d.k+201) (λq=>v.ownBlock=some q) u i (m.take f) l w.heap.size)/\(∀q,v.ownBlock=some q->q<u)/\P1 p.lo G (g f).2.1 p.room (cn _ (g f).2.2) [] (d.k+201) (λq=>u<=q/\q<i.heap.size) i) (λv b w'=>Below w.heap.size w w'/\b=s.made p.n p.prog p.room m/\(b=true->∃l a c,v=.slice a pl c/\l.length=pl/\w'.ownsRow w.heap.size 65 1 v pl (l.map xI)/\ld p.lo p.room (d.k+201) (λq=>v.ownBlock=some q) w'.heap.size w' m l w.heap.size)) Y y.lo.2 y.cells.2.1 (λf h=>?_) (y.mayHave pl Y) (λf i h j=>(y.later j).knows _) (λf l v i h o j E=>?_) ?_ (λf l v i H E j=>?_) (λf G l a c D O i ab H B am j A ao aq=>?_) (λi j t=>?_) λi l a c j aj Q ak al R=>?_
 ·obtain⟨D,I,P,x⟩:=an f _ (F f h);exact⟨D,I,P,x 0 _ rfl,x 1 _ rfl,x 2 _ rfl,x 3 _ rfl,x 4 _ rfl,x 5 _ rfl⟩
 ·have aT:=A4 aw o;obtain⟨aG,aH⟩:=W f h;refine(P1.new _ (g f).2.2 p.room (g f).2.1 i (by omega) ((aH.below j).mono j.size) (eU aG)).mono ?_;rintro e w' ⟨q,rfl,aa⟩;obtain⟨L,aU,aI⟩:=aa.out;refine⟨q,rfl,L,λe=>?_⟩;obtain⟨G,I,P,x,ah⟩:=aI e;have:=y.lo.1;have:=j.size;refine⟨G,I,i.heap.size,⟨j.size,L.size⟩,E.1.kept (aC L λ_=>False) (λ_ _ z=>z.elim) (λ_ _ z=>z) (ag _),E.2,ah.mono (λb z=>z) (by omega) λb z=>⟨by omega,z.2⟩⟩
 ·exact⟨ag _,(λq z=>by cases z)⟩
 ·exact⟨E.1.kept (aC j λ_=>False) (λ_ _ z=>z.elim) (λ_ _ z=>z) j.size,λq z=>aL (E.2 q z) j.size⟩
 ·obtain⟨u,⟨aW,aX⟩,aJ,Z,aM⟩:=am;have ar:bf (λq=>(Value.slice a f c).ownBlock=some q) ab H:=⟨A.os,A.tape,A.output,A.size,λk o av=>A.block k o λe=>av e.symm⟩;have o:bf (λq=>(Value.slice a f c).ownBlock=some q) i H:=(aC j _).trans ar λ_ _ e=>e;have aR:=j.size;have aS:=A.size;have V:∀q,q<i.heap.size->(Value.slice (some ⟨D,0,none⟩) (f+1) O).ownBlock=some q->(Value.slice a f c).ownBlock=some q:=λq ax z=>by
   obtain rfl:D=q:=ap z;rcases ao with e|e
   ·exact e
   ·omega
  refine⟨?_,λq z=>?_⟩
  ·rw[aE f B];refine ld.snoc (ag u) (B2:=i.heap.size) (by omega) ?_ ?_ (aJ.kept o (λq _ z=>z) (λq ax z=>V q (by omega) z) (ag _))
   ·exact aM.kept (S:=λq=>(Value.slice a f c).ownBlock=some q) ⟨o.os,o.tape,o.output,o.size,o.block⟩ λb z C=>by have:=Z b C;omega
   ·exact λq M C aN=>by have:=Z q (V q C aN);omega
  ·obtain rfl:D=q:=ap z;exact aq
 ·refine⟨j,?_,(λz=>by cases z)⟩;unfold Sy.made;rw[U];rcases t with t|⟨f,h,t⟩
  ·rw[t];rfl
  ·refine Eq.symm (Bool.and_eq_false_iff.2 (af ?_));rw[List.all_eq_false];refine⟨_,ay (K f h),?_⟩;simp only[az,ci,not_and];intro M C;rw[X f h]at C;rcases t with t|t
   ·rw[t]at M;cases M
   ·exact t C
 ·refine⟨j,?_,λ_=>⟨l,a,c,rfl,ak,al,?_⟩⟩
  ·unfold Sy.made;rw[U,aj,ed,eq_comm,bS];intro aY aF;obtain⟨f,h⟩:=List.mem_iff_getElem?.1 aF;have B:f<pl:=by have:=(aK.1 h).1;omega
   rw[K f B]at h;obtain rfl:=ap h;simp only[az,ci];exact⟨(Q f B).1,(X f B).trans (Q f B).2⟩
  ·rw[bk (by omega)]at R;exact R.1
end
theorem xq(x:Nat)(a O P:Int)(Q:ByteArray)(ma:Option Addr)(T S:Nat)(f:Int)(sa:Option Addr)(sl sc:Nat)(pa:Option Addr)(pl pc:Nat)(ka:Option Addr)(kl kc:Nat)(am:Option Addr)(vl aw:Nat)(aa:Nat->Nat)(C D E:Nat->Int)(F:Nat->ByteArray)(xa:Nat->Option Addr)(G xc:Nat->Nat)(al:Nat->Int)(w:World)(k o p:Nat->Nat->World->Prop)(R:World->Prop)(aG:vl<=1000)(aF:sl<=1000)(aE:kl<=1000)(X:Hid (∀q W,Below w.heap.size w W->w.heap.size<=q->W.heap[q]?=some (.cells #[.int .i64 O,.int .i64 P,.string Q,.slice ma T S,.int .i64 f,.slice sa sl sc,.slice pa pl pc,.slice ka kl kc] 99)->k q 0 W))(H:Hid (∀q W,k q vl W->o q 0 W))(y:Hid (∀q W,o q sl W->p q 0 W))(i:Hid (∀q j W,(k q j W\/o q j W\/p q j W)->W.heap[q]?=some (.cells #[.int .i64 O,.int .i64 P,.string Q,.slice ma T S,.int .i64 f,.slice sa sl sc,.slice pa pl pc,.slice ka kl kc] 99)))(I:Hid (∀q j W,j<vl->k q j W->(∃g,am=some ⟨g,0,none⟩/\W.cell? ⟨g,j,none⟩=some (.pointer (some ⟨aa j,0,none⟩)))/\Hid (Calls Tryz.prog 32 #[.pointer (some ⟨x,0,none⟩),.int .i64 a,.pointer (some ⟨aa j,0,none⟩)] W λe w'=>e=.returned (.tuple #[])/\Hid (k q (j+1) w'))))(z:Hid (∀q j W,j<sl->o q j W->(∃g,sa=some ⟨g,0,none⟩/\W.cell? ⟨g,j*5,none⟩=some (.int .i64 (C j))/\W.cell? ⟨g,j*5+1,none⟩=some (.int .i64 (D j))/\W.cell? ⟨g,j*5+2,none⟩=some (.int .i64 (E j))/\W.cell? ⟨g,j*5+3,none⟩=some (.string (F j))/\W.cell? ⟨g,j*5+4,none⟩=some (.slice (xa j) (G j) (xc j)))/\Hid (∀Z,Below W.heap.size W Z->Calls Tryz.prog 64 #[.pointer (some ⟨x,0,none⟩),.int .i64 a,.int .i64 (C j),.agg #[.int .i64 (D j),.int .i64 (E j),.string (F j),.slice (xa j) (G j) (xc j)]] Z λe w'=>e=.returned (.tuple #[])/\Hid (o q (j+1) w'))))(t:Hid (∀q j W,j<kl->p q j W->(∃g,ka=some ⟨g,0,none⟩/\W.cell? ⟨g,j,none⟩=some (.int .i64 (al j)))/\Hid (Calls Tryz.prog 65 #[.pointer (some ⟨x,0,none⟩),.int .i64 a,.int .i64 (al j)] W λe w'=>e=.returned (.tuple #[])/\Hid (p q (j+1) w'))))(s:Hid (∀q W,p q kl W->(f=1->Calls Tryz.prog 37 #[.pointer (some ⟨x,0,none⟩),.int .i64 a,.int .i64 1] W λe w'=>e=.returned (.tuple #[])/\Hid (R w'))/\(f≠1->R W))):Calls Tryz.prog 38 #[.pointer (some ⟨x,0,none⟩),.int .i64 a,.agg #[.int .i64 O,.int .i64 P,.string Q,.slice ma T S,.int .i64 f,.slice sa sl sc,.slice pa pl pc,.slice ka kl kc],.slice am vl aw] w λe w'=>e=.returned (.tuple #[])/\Hid (R w'):=by
 go_enter Tryz.func38,Tryz.ntmps38;go_upto_region 1 with fail;generalize m:w.alloc _=an;obtain⟨q,B⟩:∃q,q=w.heap.size:=⟨_,rfl⟩;rw[<-B];have V:Hid (k q 0 an):=X.out q an (by rw[<-m];exact(ah _ _).alloc (ag _) _) (dp B.symm) (by rw[<-m,B];exact ax _ _);clear m B X;go_wp2_with fail;go_loopw [9,16] (λ_ c wr=>∃(j:Nat),j<=vl/\c=.int .i64 j/\Hid (k q j wr)) (λ_ c _=>vl-(intOf c).toNat)
 case atStart=>exact⟨0,aD _,rfl,V.out⟩
 case round=>
 obtain⟨j,A,rfl,b⟩:=hrel;by_cases l:j<vl
 ·obtain⟨⟨g,rfl,M⟩,n⟩:=I.out q j wr l b.out;have aj:(0:Int)<=(j:Int):=by omega
  have ak:(j:Int)<(vl:Int):=by omega
  clear H y i I z t s b;go_wp2_with fail;refine n.out.mono ?_;rintro e d ⟨rfl,h⟩;go_wp2_with fail;go_roundw
  case rel=>exact⟨j+1,by omega,by go_num,h.out⟩
  case measure=>simp[intOf];omega
 obtain rfl:j=vl:=by omega
 have K:=ai (H.out _ _ b.out);clear b I H V A l;have au:wr.cell? ⟨q,5,none⟩=some (.slice sa sl sc):=ab (i.out q 0 wr (af (ae K.out))) 5;go_wp2_with fail;clear au;go_loopw [11,28] (λ_ c U=>∃(j:Nat),j<=sl/\c=.int .i64 j/\Hid (o q j U)) (λ_ c _=>sl-(intOf c).toNat)
 case atStart=>exact⟨0,aD _,rfl,K.out⟩
 case round=>
 clear K;obtain⟨j,A,rfl,b⟩:=hrel;by_cases l:j<sl
 ·obtain⟨⟨g,rfl,M,ap,aq,ar,ad⟩,n⟩:=z.out q j _ l b.out;have aj:(0:Int)<=(j:Int):=by omega
  have ak:(j:Int)<(sl:Int):=by omega
  clear y i z t s b;go_upto_region 9 with fail;generalize m:World.alloc _ _=d;have r:d.heap[wr.heap.size]?=some (.cells #[.int .i64 (C j),.int .i64 (D j),.int .i64 (E j),.string (F j),.slice (xa j) (G j) (xc j)] 153):=by
   rw[<-m];exact ax _ _
  have ao:=ai (n.out d (by rw[<-m];exact(ah _ _).alloc (ag _) _));generalize wr.heap.size=u at*;have ay:d.cell? ⟨u,0,none⟩=some (.int .i64 (C j)):=ab r 0;have d1:d.cell? ⟨u,1,none⟩=some (.int .i64 (D j)):=ab r 1;have az:d.cell? ⟨u,2,none⟩=some (.int .i64 (E j)):=ab r 2;have aA:d.cell? ⟨u,3,none⟩=some (.string (F j)):=ab r 3;have aB:d.cell? ⟨u,4,none⟩=some (.slice (xa j) (G j) (xc j)):=ab r 4;clear m r n M ap aq ar ad;go_wp2_with fail;refine ao.out.mono ?_;rintro e aH ⟨rfl,h⟩;go_wp2_with fail;go_roundw
  case rel=>exact⟨j+1,by omega,by go_num,h.out⟩
  case measure=>simp[intOf];omega
 obtain rfl:j=sl:=by omega
 have L:=ai (y.out _ _ b.out);clear b z y A l;have av:wr.cell? ⟨q,7,none⟩=some (.slice ka kl kc):=ab (i.out q 0 wr (af (af L.out))) 7;go_wp2_with fail;clear av;go_loopw [13,43] (λ_ c U=>∃(j:Nat),j<=kl/\c=.int .i64 j/\Hid (p q j U)) (λ_ c _=>kl-(intOf c).toNat)
 case atStart=>exact⟨0,aD _,rfl,L.out⟩
 case round=>
 clear L;obtain⟨j,A,rfl,b⟩:=hrel;by_cases l:j<kl
 ·obtain⟨⟨g,rfl,M⟩,n⟩:=t.out q j _ l b.out;have aj:(0:Int)<=(j:Int):=by omega
  have ak:(j:Int)<(kl:Int):=by omega
  clear i t s b;go_wp2_with fail;refine n.out.mono ?_;rintro e d ⟨rfl,h⟩;go_wp2_with fail;go_roundw
  case rel=>exact⟨j+1,by omega,by go_num,h.out⟩
  case measure=>simp[intOf];omega
 obtain rfl:j=kl:=by omega
 have ad:wr.cell? ⟨q,4,none⟩=some (.int .i64 f):=ab (i.out q _ wr (af (af b.out))) 4;have Y:=ai (s.out q _ b.out);clear b t i s;by_cases N:f=1
 ·subst N;have J:=ai (Y.out.1 rfl);go_wp2_with fail;refine J.out.mono ?_;rintro e d ⟨rfl,h⟩;go_wp2_with fail;exact dP (v:=.tuple #[]) (by simp[results]) rfl ⟨rfl,h.out⟩
 ·have J:=ai (Y.out.2 N);have aC:(f==1)=false:=by simpa using N
  go_wp2_with fail;exact dP (v:=.tuple #[]) (by simp[results]) rfl ⟨rfl,J.out⟩
def oG(M:Nat->Prop)(a:Nat)(d b:fW)(w w':World):Prop:=bf (λq=>d.ow q<0) w w'/\(∀q,q<w.heap.size->¬M q->b.ow q=d.ow q)/\(∀q,q<w.heap.size->M q->0<=b.ow q)/\b.k=d.k/\b.es.length<=d.es.length+a/\b.wn<=d.wn+a/\b.bn<=d.bn+a
section
variable {p:lT} {s:Sy} {d d1 d2:fW} {w w1 w2:World} {M:Nat->Prop} {a b:Nat}
theorem oG.up(m:oG M a d d1 w w1)(k:dE b d1 d2 w1 w2):oG M (a+b) d d2 w w2:=by
 obtain⟨h,i,j,n,q,r,s⟩:=m;obtain⟨o,l,p,u,v,x⟩:=k;have t:=h.size;refine⟨h.trans o λc e g=>?_,λc e f=>(l c (by omega)).trans (i c e f),λc e f=>by rw[l c (by omega)];exact j c e f,p.trans n,by omega,by omega,by omega⟩;by_cases f:M c
 ·have:=j c e f;omega
 ·rw[i c e f]at g;exact g
theorem oG.ad{M':Nat->Prop}(m:oG M a d d1 w w1)(k:Kc M' b d1 d2 w1 w2)(o:∀q,M' q->M q):oG M (a+b) d d2 w w2:=by
 obtain⟨h,i,j,n,t,u,v⟩:=m;obtain⟨p,l,r,s,y,z,A⟩:=k;have x:=h.size;refine⟨h.trans p λq e g=>?_,λq e c=>(l q (by omega) λf=>c (o q f)).trans (i q e c),λq e c=>?_,s.trans n,by omega,by omega,by omega⟩
 ·by_cases c:M q
  ·have:=j q e c;omega
  ·rw[i q e c]at g;exact g
 ·by_cases f:M' q
  ·have:=r q f;omega
  ·rw[l q (by omega) f];exact j q e c
theorem oG.mono(c:oG M a d d1 w w1)(l:a<=b):oG M b d d1 w w1:=by
 obtain⟨e,f,g,h,i,j,k⟩:=c;exact⟨e,f,g,h,by omega,by omega,by omega⟩
theorem CW.ug{m:Nat}{x:Tm m}(e:CW d w x)(k:oG M a d d1 w w1):CW d1 w1 x:=by
 have g:=eX k.1 (D:=λb=>0<=d.ow b/\b<w.heap.size) (λb c f=>by omega) ⟨e.1,In.offB e.2 e.1⟩;refine⟨g.1,g.2.mono λb c=>?_⟩;by_cases f:M b
 ·exact k.2.2.1 b c.2 f
 ·rw[k.2.1 b c.2 f];exact c.1
theorem yC(a:Int):(l:List (Int×ByteArray×Tc))->(s:Sy)->(l.foldl (λs x=>s.add a x.2.1 x.2.2) s).ps.length=s.ps.length+l.length/\(l.foldl (λs x=>s.add a x.2.1 x.2.2) s).last=s.last+l.length
 | [],s=>by simp
 | x::l,s=>by
  have b:=yC a l (s.add a x.2.1 x.2.2);rw[gK,b.1,b.2];simp only[Sy.add,Sy.tell,aX,aW,jQ];omega
theorem aV.follow(az:aV p s d w){a:Int}(ak:dc a)(h:Tk)(a4:xK 8 h.sends h.spawns h.links)(y0 y1:Int)(y2:ByteArray)(ya:Option Addr)(yl yc:Nat){N av aR c B:Nat}{sa:Option Addr}{sl sc:Nat}{pa:Option Addr}{pl pc:Nat}{ka:Option Addr}{kl kc:Nat}{O:Option Addr}{vl S:Nat}{L:List (Int×Tm (N+1))}{K:List Nat}{au:Nat->Prop}(bd:w.ownsRow av 153 5 (.slice sa sl sc) sl (L.flatMap λz=>JN z.1 z.2))(a6:w.ownsRow av 3 1 (.slice ka kl kc) kl (h.links.map λu=> .int .i64 u))(bg:w.ownsRow aR 65 1 (.slice O vl S) vl (K.map xI))(a7:L.length=sl/\h.links.length=kl/\K.length=vl/\h.spawns.length=vl)(am:L.map (λz=>(z.1,cn _ z.2))=h.sends)(be:∀z∈L,bA _ z.2=0/\CW d w z.2)(a9:∀q,((Value.slice sa sl sc).ownBlock=some q\/(Value.slice ka kl kc).ownBlock=some q\/(Value.slice O vl S).ownBlock=some q)->0<=d.ow q)(a1:ld p.lo p.room (d.k+201) au B w h.spawns K c)(br:B<=w.heap.size)(how:∀q,c<=q->q<B->d.ow q=0)(a8:s.may vl=true)(bu:d.k<=47000)(bs:d.es.length<=97000)(bB:d.wn<=900000)(bt:d.bn<=900000):Calls Tryz.prog 38 #[.pointer (some ⟨p.b,0,none⟩),.int .i64 a,KY y0 y1 y2 ya yl yc h.fate sa sl sc pa pl pc ka kl kc,.slice O vl S] w λe w'=>e=.returned (.tuple #[])/\Hid (∃P,aV p (s.follow a h) P w'/\oG (λq=>c<=q/\q<B) 200 d P w w'):=by
 obtain⟨bh,bC,bD,bE⟩:=a7;obtain⟨⟨ax,bp,bq⟩,aX,aY⟩:=a4;have bx:=Ga a8;have bz:sl<=8:=by rw[<-bh];rw[<-am,dO]at ax;exact ax
 have U:∀{E:Type}(l:List E)(z:E)(f:Nat),f<l.length->l[f]?=some (l.getD f z):=λl z f i=>by
  rw[nT,aA i];rfl
 obtain⟨m,ab⟩:∃m:Nat->Int×Tm (N+1),∀f,f<sl->L[f]?=some (m f):=⟨_,λf i=>U L (0,((0,0,⟨#[]⟩),(none,0),[])) f (by omega)⟩;obtain⟨ar,ah⟩:∃m:Nat->Int,∀f,f<kl->h.links[f]?=some (m f):=⟨_,λf i=>U h.links 0 f (by omega)⟩;obtain⟨ap,aB⟩:∃m:Nat->Nat,∀f,f<vl->K[f]?=some (m f):=⟨_,λf i=>U K 0 f (by omega)⟩;obtain⟨bl,aD⟩:∃m:Nat->Int×ByteArray×Tc,∀f,f<vl->h.spawns[f]?=some (m f):=⟨_,λf i=>U h.spawns (0,⟨#[]⟩,KW) f (by omega)⟩;have al:∀q,((Value.slice sa sl sc).ownBlock=some q\/(Value.slice ka kl kc).ownBlock=some q\/(Value.slice O vl S).ownBlock=some q)->¬d.ow q<0:=λq z=>by have:=a9 q z;omega
 have a2:∀g,bf (λq=>d.ow q<0) w g->∀f,f<sl->∃n,sa=some ⟨n,0,none⟩/\∀(t:Nat)(u:Value),(JN (m f).1 (m f).2)[t]?=some u->g.cell? ⟨n,f*5+t,none⟩=some u:=λg Q f i=>by
  obtain⟨_,_,x,_,D⟩:=pS (aT bd Q λq z=>al q (ae z)) (by decide) λz=>rfl;injection x with x;subst x;obtain⟨n,A,_,C⟩:=D f _ (ab f i);exact⟨n,A,C⟩
 have a0:∀g,bf (λq=>d.ow q<0) w g->∀f,f<kl->∃n,ka=some ⟨n,0,none⟩/\g.cell? ⟨n,f,none⟩=some (.int .i64 (ar f)):=λg Q f i=>by
  have R:=aT a6 Q λq z=>al q (af (ae z));rw[List.map_eq_flatMap]at R;obtain⟨_,_,x,_,D⟩:=pS R (by decide) λz=>rfl;injection x with x;subst x;obtain⟨n,A,_,C⟩:=D f _ (ah f i);have:=C 0 _ rfl;simp only[Nat.mul_one,iY]at this;exact⟨n,A,this⟩
 have a3:∀g,bf (λq=>d.ow q<0) w g->∀f,f<vl->∃n,O=some ⟨n,0,none⟩/\g.cell? ⟨n,f,none⟩=some (.pointer (some ⟨ap f,0,none⟩)):=λg Q f i=>by
  have R:=aT bg Q λq z=>al q (af (af z));rw[List.map_eq_flatMap]at R;obtain⟨_,_,x,_,D⟩:=pS R (by decide) λz=>rfl;injection x with x;subst x;obtain⟨n,A,_,C⟩:=D f _ (aB f i);have:=C 0 _ rfl;simp only[Nat.mul_one,iY]at this;exact⟨n,A,this⟩
 have aG:∀{E:Type}{l:List E}{f:Nat}{z:E},l[f]?=some z->l.drop f=z::l.drop (f+1):=λ{E l f z} e=>by
  obtain⟨aZ,rfl⟩:=aK.1 e;exact eF aZ
 have an:∀{E:Type}{l:List E}{f:Nat}{z:E},l[f]?=some z->l.take (f+1)=l.take f++ [z]:=λ{E l f z} e=>by
  rw[dw,e];rfl
 obtain⟨V,aJ⟩:∃V,V=h.spawns.foldl (λs v=>s.add a v.2.1 v.2.2) s:=⟨_,rfl⟩;obtain⟨W,aL⟩:∃W,W=h.sends.foldl (λs v=>s.send a v.1 v.2) V:=⟨_,rfl⟩;obtain⟨X,aM⟩:∃X,X=h.links.foldl (λs v=>s.link a v) W:=⟨_,rfl⟩;have bc:s.follow a h=if h.fate=1 then X.fin a 1 else X:=by rw[aM,aL,aJ];rfl
 let aw:Obj:=.cells #[.int .i64 y0,.int .i64 y1,.string y2,.slice ya yl yc,.int .i64 h.fate,.slice sa sl sc,.slice pa pl pc,.slice ka kl kc] 99;let Z:Nat->Prop:=λq=>c<=q/\q<B;let aq:Sy->Nat->Nat->World->Prop:=λbi k q g=>∃d1,aV p bi d1 g/\oG Z k d d1 w g/\(w.heap.size<=q/\q<g.heap.size/\g.heap[q]?=some aw/\d1.ow q=0)
 refine xq p.b a y0 y1 y2 ya yl yc h.fate sa sl sc pa pl pc ka kl kc O vl S ap (λf=>(m f).1) (λf=>(m f).2.1.1) (λf=>(m f).2.1.2.1) (λf=>(m f).2.1.2.2) (λf=>(m f).2.2.1.1) (λf=>(m f).2.2.2.length) (λf=>(m f).2.2.1.2) ar w
  (λq f g=>∃d1,aV p ((h.spawns.take f).foldl (λs v=>s.add a v.2.1 v.2.2) s) d1 g/\oG Z f d d1 w g/\(w.heap.size<=q/\q<g.heap.size/\g.heap[q]?=some aw/\d1.ow q=0)/\∃T,c<=T/\ld p.lo p.room (d.k+201) au B g (h.spawns.drop f) (K.drop f) T/\∀q,T<=q->q<B->d1.ow q=0)
  (λq f g=>aq ((h.sends.take f).foldl (λs v=>s.send a v.1 v.2) V) (vl+2*f) q g) (λq f g=>aq ((h.links.take f).foldl (λs v=>s.link a v) W) (vl+2*sl+f) q g) (λw'=>∃P,aV p (s.follow a h) P w'/\oG Z 200 d P w w') (by omega) (by omega) (by omega) (λq g ai aH aF=>?_) (λq g y=>?_) (λq g y=>?_) (λq f g y=>?_) (λq f g i y=>?_) (λq f g i y=>?_) (λq f g i y=>?_) λq g y=>?_
 ·have bb:=(aE.1 aF).1;refine⟨d,az.later ai,⟨aC ai _,λ_ _ _=>rfl,λq _ z=>by rw[how q z.1 z.2];exact il 0,rfl,ag _,ag _,ag _⟩,⟨aH,bb,aF,?_⟩,c,ag _,a1.kept (aC ai λ_=>False) (λ_ _ z=>z.elim) (λ_ _ z=>z) (ag _),how⟩;by_cases z:d.ow q=0
  ·exact z
  ·have:=(az.low q z).2;omega
 ·obtain⟨d1,o,j,F,_⟩:=y;rw[bk (by omega),<-aJ]at o;exact⟨d1,o,j,F⟩
 ·obtain⟨d1,o,j,F⟩:=y;rw[bk (by rw[<-am,dO];omega),<-aL]at o;exact⟨d1,o,j,F⟩
 ·rcases y with⟨d1,_,_,F,_⟩|⟨d1,_,_,F⟩|⟨d1,_,_,F⟩
  ·exact F.2.2.1
  ·exact F.2.2.1
  ·exact F.2.2.1
 ·obtain⟨d1,o,j,⟨A,G,C,H⟩,T,bF,aO,ao⟩:=y;refine⟨a3 g j.1 f i,?_⟩;rw[aG (aD f i),aG (aB f i)]at aO;obtain⟨aS,aa,bG,aP,_,aQ⟩:=aO;have a5:=yC a (h.spawns.take f) s;rw[dn]at a5;have bw:=aQ.le;have bv:=j.2.2.2.1;refine(o.add a (M:=λq=>aS<=q/\q<aa) (aP.mono (λ_ z=>z) (by omega) (P1.lie2 aP)) (λq z=>ao q (by omega) (by omega)) (by omega) (by omega) (by have:=j.2.2.2.2.1;omega)).mono ?_;rintro e w' ⟨rfl,I⟩;obtain⟨d2,J,r⟩:=I.out;have aI:=r.1.size;refine⟨rfl,d2,?_,j.ad r λq z=>⟨by omega,by omega⟩,⟨A,by omega,?_,?_⟩,aa,by omega,aQ.kept2 (c0:=aa) r.1 (λq aH ba z=>?_) (λ_ _ z=>z) (ag _) (ag _),λq bH bj=>?_⟩
  ·rw[an (aD f i),jN];exact J
  ·rw[r.1.block q G (by rw[H];decide)];exact C
  ·rw[r.2.1 q G λz=>by omega];exact H
  ·have:=ao q (by omega) ba;omega
  ·have:=j.1.size;rw[r.2.1 q (by omega) λz=>by omega];exact ao q (by omega) bj
 ·obtain⟨d1,o,j,A,G,C,H⟩:=y;obtain⟨n,x,D⟩:=a2 g j.1 f i;refine⟨⟨n,x,D 0 _ rfl,D 1 _ rfl,D 2 _ rfl,D 3 _ rfl,D 4 _ rfl⟩,λbm aj=>?_⟩;obtain⟨aU,aW⟩:=be _ (ay (ab f i));have aN:h.sends[f]?=some ((m f).1,cn _ (m f).2):=by rw[<-am,dh,ab f i];rfl
  refine((o.later aj).send ⟨ak,aX _ (ay aN)⟩ (m f).2 ((aW.ug j).up (dE.later d1 aj)) aU (by have:=j.2.2.2.2.2.1;omega) (by have:=j.2.2.2.2.1;omega)).mono ?_;rintro e w' ⟨rfl,I⟩;obtain⟨d2,J,r⟩:=I.out;have Y:=(dE.later d1 aj).trans r;have aI:=Y.1.size;refine⟨rfl,d2,?_,(j.up Y).mono (by omega),A,by omega,?_,?_⟩
  ·rw[an aN,jN];exact J
  ·rw[Y.1.block q G (by rw[H];decide)];exact C
  ·rw[Y.2.1 q G];exact H
 ·obtain⟨d1,o,j,A,G,C,H⟩:=y;refine⟨a0 g j.1 f i,?_⟩;refine(o.link ak (aY _ (ay (ah f i))) (by have:=j.2.2.2.2.2.2;omega)).mono ?_;rintro e w' ⟨rfl,I⟩;obtain⟨d2,J,r⟩:=I.out;have aI:=r.1.size;refine⟨rfl,d2,?_,(j.up r).mono (by omega),A,by omega,?_,?_⟩
  ·rw[an (ah f i),jN];exact J
  ·rw[r.1.block q G (by rw[H];decide)];exact C
  ·rw[r.2.1 q G];exact H
 ·obtain⟨d1,o,j,A,G,C,H⟩:=y;rw[bk (by omega),<-aM]at o;rw[bc];refine⟨λe=>?_,λe=>⟨d1,by rw[if_neg e];exact o,j.mono (by omega)⟩⟩;refine(o.fin ak (by have:=j.2.2.2.2.1;omega)).mono ?_;rintro bo w' ⟨rfl,I⟩;obtain⟨d2,J,r⟩:=I.out;exact⟨rfl,d2,by rw[if_pos e];exact J,(j.up r).mono (by omega)⟩
end
structure T8 where
 y0:Int
 y1:Int
 y2:ByteArray
 ya:Option Addr
 yl:Nat
 yc:Nat
 f:Int
 sa:Option Addr
 sl:Nat
 sc:Nat
 pa:Option Addr
 pl:Nat
 pc:Nat
 ka:Option Addr
 kl:Nat
 kc:Nat
theorem LC{w:World}{q:Nat}{g:Array Value}{T:TypeId}{fr:Nat×Nat}(h:w.heap[q]?=some (.cells g T fr))(j:g.size=8)(v0 v1 v2 v3 c d e f:Value):((((((((w.setCell ⟨q,0,none⟩ v0).setCell ⟨q,1,none⟩ v1).setCell ⟨q,2,none⟩ v2).setCell ⟨q,3,none⟩ v3).setCell ⟨q,4,none⟩ c).setCell ⟨q,5,none⟩ d).setCell ⟨q,6,none⟩ e).setCell ⟨q,7,none⟩ f).heap[q]?=some (.cells #[v0,v1,v2,v3,c,d,e,f] T fr)/\bf (λb=>b=q) w ((((((((w.setCell ⟨q,0,none⟩ v0).setCell ⟨q,1,none⟩ v1).setCell ⟨q,2,none⟩ v2).setCell ⟨q,3,none⟩ v3).setCell ⟨q,4,none⟩ c).setCell ⟨q,5,none⟩ d).setCell ⟨q,6,none⟩ e).setCell ⟨q,7,none⟩ f):=by
 refine⟨?_,(((((((bH w q 0 v0).trans (bH _ q 1 v1) λ_ _ a=>a).trans (bH _ q 2 v2) λ_ _ a=>a).trans (bH _ q 3 v3) λ_ _ a=>a).trans (bH _ q 4 c) λ_ _ a=>a).trans (bH _ q 5 d) λ_ _ a=>a).trans (bH _ q 6 e) λ_ _ a=>a).trans (bH _ q 7 f) λ_ _ a=>a⟩;obtain⟨l⟩:=g;have i:l.length=8:=by simpa using j
 match l,i with
 | [a0,a1,a2,a3,a4,a5,a6,a7],_=>simp[World.setCell,bJ,h]
def Ka(e:T8->Int->World->World->Prop)(w:World)(q:Nat)(t:T8)(u:Int)(d:World):Prop:=
 ∃a c,Below w.heap.size w a/\e t u a c/\(w.heap.size<=q/\(q<a.heap.size\/c.heap.size<=q))/\d.heap[q]?=some (.cells #[.int .i64 t.y0,.int .i64 t.y1,.string t.y2,.slice t.ya t.yl t.yc,.int .i64 t.f,.slice t.sa t.sl t.sc,.slice t.pa t.pl t.pc,.slice t.ka t.kl t.kc] 99)/\bf (λb=>b=q) c d
theorem vF(g:Nat)(Z:Option Nat)(a S Y:Int)(N:Option Addr)(P O:Nat)(aa:Value)(F:Bool)(w:World)(E:T8->Int->World->World->Prop)(M:Nat->T8->World->Prop)(C:Nat->T8->Value->Bool->World->Prop)(R:Int->World->Prop)(aS:IntKind.i64.wrap (S+1)=Y)(aY:g<w.heap.size)(ad:Hid (w.cell? ⟨g,0,none⟩=some (.slice N P O)/\w.cell? ⟨g,2,none⟩=some (.int .i64 S)/\w.cell? ⟨g,3,none⟩=some (.map Z)))(ar:(Instr.lookup 64 (.map Z) (.int .i64 a) true).run Tryz.prog w=.ok (.tuple #[aa,.bool F]) w)(J:Hid (F=false->R 4 w))(L:Hid (F=true->∀W,Below w.heap.size w W->Calls Tryz.prog 34 #[aa,.slice N P O,.int .i64 a,.int .i64 Y] W λe w'=>∃(t:T8)(u:Int),e=.returned (.tuple #[.agg #[.int .i64 t.y0,.int .i64 t.y1,.string t.y2,.slice t.ya t.yl t.yc,.int .i64 t.f,.slice t.sa t.sl t.sc,.slice t.pa t.pl t.pc,.slice t.ka t.kl t.kc],.int .i64 u])/\Hid (E t u W w'/\(∀q,w.heap.size<=q->q<W.heap.size->w'.heap[q]?=W.heap[q]?)/\W.heap.size<=w'.heap.size/\(w'.cell? ⟨g,0,none⟩=some (.slice N P O)/\w'.cell? ⟨g,2,none⟩=some (.int .i64 S)))))(HB:Hid (∀q t u W,Ka E w q t u W->u≠0->R u W))(B:Hid (∀q t W,Ka E w q t 0 W->Calls Tryz.prog 35 #[.pointer (some ⟨g,0,none⟩),.string ⟨#[116,97,107,101]⟩,.int .i64 a,.int .i64 0,.agg #[.int .i64 t.y0,.int .i64 t.y1,.string t.y2,.slice t.ya t.yl t.yc]] W λe w'=>e=.returned (.tuple #[])/\Hid (M q t w')))(x:Hid (∀q t W,M q t W->Calls Tryz.prog 36 #[.pointer (some ⟨g,0,none⟩),.slice t.pa t.pl t.pc] W λe w'=>∃v b,e=.returned (.tuple #[v,.bool b])/\Hid (C q t v b w')))(y:Hid (∀q t W,M q t W->W.heap[q]?=some (.cells #[.int .i64 t.y0,.int .i64 t.y1,.string t.y2,.slice t.ya t.yl t.yc,.int .i64 t.f,.slice t.sa t.sl t.sc,.slice t.pa t.pl t.pc,.slice t.ka t.kl t.kc] 99)))(z:Hid (∀q t v b W,C q t v b W->W.heap[q]?=some (.cells #[.int .i64 t.y0,.int .i64 t.y1,.string t.y2,.slice t.ya t.yl t.yc,.int .i64 t.f,.slice t.sa t.sl t.sc,.slice t.pa t.pl t.pc,.slice t.ka t.kl t.kc] 99)))(l:Hid (∀q t v b W,C q t v b W->(t.f=2\/t.f=3)->Calls Tryz.prog 37 #[.pointer (some ⟨g,0,none⟩),.int .i64 a,.int .i64 t.f] W λe w'=>e=.returned (.tuple #[])/\Hid (R 0 w')))(m:Hid (∀q t v W,C q t v false W->¬(t.f=2\/t.f=3)->Calls Tryz.prog 37 #[.pointer (some ⟨g,0,none⟩),.int .i64 a,.int .i64 2] W λe w'=>e=.returned (.tuple #[])/\Hid (R 0 w')))(n:Hid (∀q t v W,C q t v true W->¬(t.f=2\/t.f=3)->Calls Tryz.prog 38 #[.pointer (some ⟨g,0,none⟩),.int .i64 a,.agg #[.int .i64 t.y0,.int .i64 t.y1,.string t.y2,.slice t.ya t.yl t.yc,.int .i64 t.f,.slice t.sa t.sl t.sc,.slice t.pa t.pl t.pc,.slice t.ka t.kl t.kc],v] W λe w'=>e=.returned (.tuple #[])/\Hid (R 0 w'))):Calls Tryz.prog 17 #[.pointer (some ⟨g,0,none⟩),.int .i64 a] w λe w'=>∃v,e=.returned (.int .i64 v)/\Hid (R v w'):=by
 obtain⟨ak,al,am⟩:=ad.out;go_enter Tryz.func17,Tryz.ntmps17;go_upto_region 2 with fail;cases F
 ·have K:=ai (J.out rfl);clear L J HB B x y z l m n;go_wp2_with fail
  go_ret
  exact⟨4,rfl,K.out⟩
 have V:=ai (L.out rfl);clear L J ar am;have H:Hid (Below w.heap.size w w.drew):=(ah _ _).drew;have I:Hid (∀o,Below w.heap.size w (w.drew.alloc o)):=λo=>(ah _ _).drew.alloc (ag _) o;have aT:¬(w.heap.size=g):=by omega
 have aU:¬(g=w.heap.size):=by omega
 go_upto_region 4 with fail;go_cut [7,8] (λau av ay=>∃(q:Nat)(t:T8)(u:Int),au=.pointer (some ⟨q,0,none⟩)/\av=.int .i64 u/\Hid (Ka E w q t u ay))
 case first=>
  clear HB B x y z l m n
  go_region_with ((first
   | (go_at_call 34;refine(V.out _ (by first|exact H.out|exact I.out _)).mono ?_;rintro e c ⟨t,u,rfl,p⟩;have aX:g<c.heap.size:=(by have:=p.out.2.2.1;simp at this;omega);have aV:¬(c.heap.size=g):=(by omega);have aW:¬(g=c.heap.size):=(by omega);obtain⟨a0,a1⟩:=p.out.2.2.2;(first|(have d:c.heap[w.heap.size]?=some (.cells #[.int .i64 0,.int .i64 0,.string ⟨#[]⟩,.slice none 0 0,.int .i64 0,.slice none 0 0,.slice none 0 0,.slice none 0 0] 99):=((p.out.2.1 w.heap.size (ag _) (by simp)).trans (ax w.drew _));obtain⟨a2,a3,a4,a5,a6,a7,a8,a9⟩:c.cell? ⟨w.heap.size,0,none⟩=some (.int .i64 0)/\c.cell? ⟨w.heap.size,1,none⟩=some (.int .i64 0)/\c.cell? ⟨w.heap.size,2,none⟩=some (.string ⟨#[]⟩)/\c.cell? ⟨w.heap.size,3,none⟩=some (.slice none 0 0)/\c.cell? ⟨w.heap.size,4,none⟩=some (.int .i64 0)/\c.cell? ⟨w.heap.size,5,none⟩=some (.slice none 0 0)/\c.cell? ⟨w.heap.size,6,none⟩=some (.slice none 0 0)/\c.cell? ⟨w.heap.size,7,none⟩=some (.slice none 0 0):=⟨ab d 0,ab d 1,ab d 2,ab d 3,ab d 4,ab d 5,ab d 6,ab d 7⟩;have aA:c.frozen? ⟨w.heap.size,0,none⟩=false:=(by simp[World.frozen?,d]);have aB:c.frozen? ⟨w.heap.size,1,none⟩=false:=(by simp[World.frozen?,d]);have aD:c.frozen? ⟨w.heap.size,2,none⟩=false:=(by simp[World.frozen?,d]);have aE:c.frozen? ⟨w.heap.size,3,none⟩=false:=(by simp[World.frozen?,d]);have aF:c.frozen? ⟨w.heap.size,4,none⟩=false:=(by simp[World.frozen?,d]);have aG:c.frozen? ⟨w.heap.size,5,none⟩=false:=(by simp[World.frozen?,d]);have aH:c.frozen? ⟨w.heap.size,6,none⟩=false:=(by simp[World.frozen?,d]);have aI:c.frozen? ⟨w.heap.size,7,none⟩=false:=(by simp[World.frozen?,d]);have aj:=ai d;clear d)|skip))))
  all_goals (go_wp2_with fail;go_meet)
  all_goals (refine⟨_,t,u,rfl,rfl,?_⟩)
  all_goals (first
   | exact⟨_,c,H.out,p.out.1,⟨by have:=p.out.2.2.1;simpa using this,af (ag _)⟩,ax _ _,aC ((ah _ _).alloc (ag _) _) _⟩
   | exact⟨_,c,I.out _,p.out.1,⟨ag _,ae (by simp)⟩,LC aj.out rfl _ _ _ _ _ _ _ _⟩)
 case rest=>
 obtain⟨q,t,u,rfl,rfl,A⟩:=hcut;clear V H I ak al;by_cases Q:u=0;rotate_left
 ·have K:=ai (HB.out _ _ _ _ A.out Q);have aZ:(u==0)=false:=by simpa using Q
  clear A HB B x y z l m n;go_wp2_with fail
  go_ret
  exact⟨u,rfl,K.out⟩
 subst Q;have X:=ai (B.out _ _ _ A.out);obtain⟨_,_,_,_,_,D,_⟩:=A.out;have an:wc.cell? ⟨q,0,none⟩=some (.int .i64 t.y0):=ab D 0;have d1:wc.cell? ⟨q,1,none⟩=some (.int .i64 t.y1):=ab D 1;have ao:wc.cell? ⟨q,2,none⟩=some (.string t.y2):=ab D 2;have ap:wc.cell? ⟨q,3,none⟩=some (.slice t.ya t.yl t.yc):=ab D 3;clear D A HB B;go_wp2_with fail;refine X.out.mono ?_;rintro e aw ⟨rfl,G⟩;have U:=ai (x.out _ _ _ G.out);have aq:aw.cell? ⟨q,6,none⟩=some (.slice t.pa t.pl t.pc):=ab (y.out _ _ _ G.out) 6;clear X x y G an d1 ao ap;go_wp2_with fail;refine U.out.mono ?_;rintro e i ⟨v,b,rfl,j⟩;have h:=ai (z.out _ _ _ _ _ j.out);have az:i.cell? ⟨q,4,none⟩=some (.int .i64 t.f):=ab h.out 4;clear aq U z;by_cases s:t.f=2\/t.f=3
 ·have r:=ai (l.out _ _ _ _ _ j.out s);clear m n l j h;generalize t.f=f at*;rcases s with rfl|rfl
  ·go_wp2_with fail;refine r.out.mono ?_;rintro e T ⟨rfl,k⟩;go_wp2_with fail
   go_ret
   exact⟨0,rfl,k.out⟩
  ·go_wp2_with fail;refine r.out.mono ?_;rintro e T ⟨rfl,k⟩;go_wp2_with fail
   go_ret
   exact⟨0,rfl,k.out⟩
 have aQ:(t.f==2)=false:=by simpa using λe=>s (ae e)
 have aR:(t.f==3)=false:=by simpa using λe=>s (af e)
 cases b
 ·have r:=ai (m.out _ _ _ _ j.out s);clear m n l j h;go_wp2_with fail;refine r.out.mono ?_;rintro e T ⟨rfl,k⟩;go_wp2_with fail
  go_ret
  exact⟨0,rfl,k.out⟩
 ·have r:=ai (n.out _ _ _ _ j.out s);have aJ:i.cell? ⟨q,0,none⟩=some (.int .i64 t.y0):=ab h.out 0;have aK:i.cell? ⟨q,1,none⟩=some (.int .i64 t.y1):=ab h.out 1;have aL:i.cell? ⟨q,2,none⟩=some (.string t.y2):=ab h.out 2;have aM:i.cell? ⟨q,3,none⟩=some (.slice t.ya t.yl t.yc):=ab h.out 3;have aN:i.cell? ⟨q,5,none⟩=some (.slice t.sa t.sl t.sc):=ab h.out 5;have aO:i.cell? ⟨q,6,none⟩=some (.slice t.pa t.pl t.pc):=ab h.out 6;have aP:i.cell? ⟨q,7,none⟩=some (.slice t.ka t.kl t.kc):=ab h.out 7;clear m n l j h;go_wp2_with fail;refine r.out.mono ?_;rintro e T ⟨rfl,k⟩;go_wp2_with fail
  go_ret
  exact⟨0,rfl,k.out⟩
end Go.Proofs.YtnidfceinoiboaaGreat
