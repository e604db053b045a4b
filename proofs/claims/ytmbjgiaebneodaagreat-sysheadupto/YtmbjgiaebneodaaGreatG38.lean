/- What is proved here: plain facts and contracts that the claimed theorem stands on. No condition but those that each names. -/
import Derived.Test.YtmbjgiaebneodaaGreatG37
import Derived.Deep.DeepCutAuto
namespace Go.Proofs.YtmbjgiaebneodaaGreat
open Go.RowKit
set_option maxHeartbeats 4000000
set_option maxRecDepth 100000
theorem cv{g d:Type}{f:g->d->Bool}{p:List g}{b:d}{q:List d}(c:av f p (b::q)=true):∃a e,p=a::e/\f a b=true/\av f e q=true:=by
 cases p with
 | nil=>simp[av]at c
 | cons a p=>
  simp only[av,aB]at c;exact⟨a,p,rfl,c.1,c.2⟩
theorem kV{a b:Type}{f:a->b->Bool}{p:List a}(c:av f p ([]:List b)=true):p=[]:=by
 cases p with
 | nil=>rfl
 | cons d p=>simp[av]at c
theorem Gf{n m:Nat}{x:Tm n}{y:Tm (m+1)}(a:aw n x (m+1) y=true):(ib n x).1=y.1:=(Cu a).1
theorem lS{N n:Nat}{x:Tm (N+1)}{c:ByteArray}{ys:List (Tm (n+1))}(k:aw (N+1) x (n+2) (cI (n+1) (aQ c n::ys))=true):eF N x=c/\av (λa b=>aw N a (n+1) b) (bA N x) ys=true:=by
 obtain⟨l,m⟩:=bq k;obtain⟨a,q,g,h,o⟩:=cv m;have d:x.1.1=4:=by rw[l];rfl
 have e:=Gf h;have i:bD ⟨N,a⟩=2:=by
  cases N with
  | zero=>simp[aw]at h
  | succ N=>
   have:a.1.1=2:=by
    have j:a.1=(2,0,c):=e;rw[j]
   exact this
 have f:x.2.2[0]?=some a:=by rw[g];rfl
 have p:x.2.2.drop 1=q:=by rw[g];rfl
 constructor
 ·simp only[eF,d,cR,f,i];rw[e];rfl
 ·simp only[bA,d,cR,f,i,p];exact o
theorem jQ(a:ByteArray):qX a a=true:=by simp[qX]
theorem rN{o g:Type}{n:Nat}{f:Tm n->Option o}{R:Tm n->g->Prop}{Q:o->g->Prop}(j:∀y b,R y b->∃a,f y=some a/\Q a b):(q:List (Tm n))->(l:List g)->dv R q l->∃c,cB f q=some c/\dv Q c l
 | [],[],_=>⟨[],rfl,dv.nil⟩
 | [],_::_,h=>by have:=h.1;simp at this
 | _::_,[],h=>by have:=h.1;simp at this
 | y::q,b::l,h=>by
  obtain⟨a,p,k⟩:=j y b h.tail.1;obtain⟨c,r,m⟩:=rN j q l h.tail.2;refine⟨a::c,by simp[cB,p,r],by simp[m.1],λi u v d e=>?_⟩;cases i with
  | zero=>
   simp at d e;subst d e;exact k
  | succ i=>exact m.2 i u v (by simpa using d) (by simpa using e)
theorem kt{e:Type}{n m:Nat}(g:e->Tm m):(q:List (Tm n))->(l:List e)->av (λa b=>aw n a m b) q (l.map g)=true->dv (λy b=>aw n y m (g b)=true) q l
 | [],[],_=>dv.nil
 | [],_::_,h=>by simp[av]at h
 | _::_,[],h=>by simp[av]at h
 | y::q,b::l,h=>by
  simp only[aJ,av,aB]at h;have ih:=kt g q l h.2;refine⟨by simp[ih.1],λi u v c d=>?_⟩;cases i with
  | zero=>
   simp at c d;subst c d;exact h.1
  | succ i=>exact ih.2 i u v (by simpa using c) (by simpa using d)
theorem js{a s:ByteArray}(b:a.toList≠s.toList):qX a s=false:=by simpa [qX]using b
theorem Kc(M N n:Nat)(a:Ac (n+1))(y:Tm N)(b:aw N y (n+2) (da n a)=true):∃E,qz M N y=some E:=by
 cases N with
 | zero=>simp[aw]at b
 | succ N=>
 have i:iB.toList=[115,101,110,100]:=jo [115,101,110,100];have j:iX.toList=[115,112,97,119,110]:=jo [115,112,97,119,110];have k:lZ.toList=[108,105,110,107]:=jo [108,105,110,107];have l:l9.toList=[115,116,111,112]:=jo [115,116,111,112];unfold da at b;split at b
 ·obtain⟨c,d⟩:=lS b;obtain⟨s,t,f,r,h⟩:=cv d;obtain⟨B,C,o,z,q⟩:=cv h;have p:=kV q;subst o p;simp only[qz,iT,c,f,jQ];exact⟨_,rfl⟩
 split at b
 ·obtain⟨c,d⟩:=lS b;obtain⟨s,t,f,r,h⟩:=cv d;obtain⟨B,C,o,z,q⟩:=cv h;obtain⟨D,F,p,A,v⟩:=cv q;have g:=kV v;subst o p g;have w:bD ⟨N,s⟩=2:=by rw[jv r];rfl
  have x:bD ⟨N,D⟩=5:=by rw[jv A];rfl
  have e:qX iX iB=false:=js (by rw[i,j];decide);simp only[qz,iT,c,f,jQ,e,Bool.false_and,dZ];simp[wF,w,x]
 split at b
 ·obtain⟨c,d⟩:=lS b;obtain⟨s,t,f,r,h⟩:=cv d;have g:=kV h;subst g;have e:qX lZ iB=false:=js (by rw[i,k];decide);have m:qX lZ iX=false:=js (by rw[j,k];decide);simp only[qz,iT,c,f,jQ,e,m,Bool.false_and,dZ];simp
 ·obtain⟨c,d⟩:=lS b;have g:=kV d;have e:qX l9 iB=false:=js (by rw[i,l];decide);have m:qX l9 iX=false:=js (by rw[j,l];decide);have u:qX l9 lZ=false:=js (by rw[k,l];decide);simp only[qz,iT,c,g,jQ,e,m,u,Bool.false_and,dZ];simp
theorem Ke(M N n:Nat)(c:Cl (n+1))(y:Tm N)(g:aw N y (n+4) (ey n c)=true):∃e,wE M N y=some e:=by
 cases N with
 | zero=>simp[aw]at g
 | succ N=>
 obtain⟨o,p⟩:=lS g;obtain⟨B,G,i,D,q⟩:=cv p;obtain⟨C,H,j,E,r⟩:=cv q;obtain⟨a,I,k,d,s⟩:=cv r;obtain⟨t,J,l,F,u⟩:=cv s;have m:=kV u;subst j k l m;have v:bD ⟨N,a⟩=4:=by rw[jv d];rfl
 cases N with
 | zero=>simp[aw]at d
 | succ N=>
 obtain⟨h,z,_⟩:=rN (f:=qz M N) (R:=λy b=>aw N y (n+2) (da n b)=true) (Q:=λ_ _=>True) (λy b w=>by
  obtain⟨e,x⟩:=Kc M N n b y w
  exact⟨e,x,trivial⟩) a.2.2 c.2.2 (kt (da n) _ _ (bq d).2)
 have A:cB (qz M (N+1-1)) (BR (N+1) a)=some h:=z;refine⟨((aH (M+1) (N+1) B,aH (M+1) (N+1) C,aH (M+1) (N+1) t),(none,0),h),?_⟩;show qA M (N+1) (eF (N+1) y) (bA (N+1) y)=_;rw[o,i];unfold qA;rw[if_pos (by rw[jQ];rfl)];show (if bD ⟨N+1,a⟩=4 then (cB (qz M (N+1-1)) (BR (N+1) a)).map _ else none)=_;rw[if_pos v,A];rfl
theorem Kd(M N n:Nat)(b:Bh (n+1))(y:Tm N)(c:aw N y (n+5) (ei n b)=true):∃a,wC M N y=some a/\a.2.2.length=b.2.2.length:=by
 cases N with
 | zero=>simp[aw]at c
 | succ N=>
 obtain⟨g,h⟩:=lS c;obtain⟨d,q,e,p,i⟩:=cv h;have j:bD ⟨N,d⟩=2:=by rw[jv p];rfl
 obtain⟨r,o,k⟩:=rN (f:=wE M N) (R:=λy b=>aw N y (n+4) (ey n b)=true) (Q:=λ_ _=>True) (λy b l=>by
  obtain⟨a,m⟩:=Ke M N n b y l
  exact⟨a,m,trivial⟩) q b.2.2 (kt (ey n) _ _ i)
 refine⟨(uN N d,(none,0),r),?_,k.1⟩;simp only[wC,rC,g,e,jQ];simp[j,o]
theorem Kf(M N n:Nat)(q:N<=M+1)(l:List (Bh (n+1)))(e:jm (n+1) l=true)(x:Tm N)(r:aA ⟨N,x⟩)(i:aw N x (n+6) (cO n l)=true):∃a,yY M N x=some a/\jm (M+1) a=true/\a.length=l.length:=by
 cases N with
 | zero=>simp[aw]at i
 | succ N=>
 obtain⟨o,p⟩:=lS i;obtain⟨h,u,c⟩:=rN (f:=wC M N) (R:=λg b=>aw N g (n+5) (ei n b)=true) (Q:=λa b=>a.2.2.length=b.2.2.length) (λg b s=>Kd M N n b g s) (bA N x) l (kt (ei n) _ _ p);have m:yY M (N+1) x=some h:=by
  simp only[yY,o,jQ];simpa using u
 refine⟨h,m,?_,c.1⟩;rw[(yZ M (N+1) q x r h m).2];simp only[jm,sj,aB,bV,bT]at e ⊢;refine⟨by rw[c.1];exact e.1.1,λa t=>?_⟩;obtain⟨d,j⟩:=cF t;have k:d<l.length:=by have:=(aK.1 j).1;rw[<-c.1];exact this
 have:=c.2 d a l[d] j (az k);rw[this];exact(e.2 l[d] (iG k)).1.1.2
def B6(M:Nat)(o:Option (List (Bh (M+1)))):Int:=match o with|some l=>if jm (M+1) l=true then 0 else 5|none=>5
def Fr(M n:Nat)(x:Tm n):Int:=if bv n x=0 then B6 M (yY M n x)else bv n x
def rM(M:Nat)(E:Int)(o:Option (List (Bh (M+1))))(w:World)(e:Ending)(w':World):Prop:=
 ∃(l:List (Bh (M+1)))(a:Option Addr)(c:Nat),e=.returned (.tuple #[.slice a l.length c,.int .i64 E])/\Hid (Below w.heap.size w w'/\(l.length<=c/\c<=maxLen)/\fl (M+1) w'.heap.size w' a l/\rv (iZ (M+1) (λb=>w.heap.size<=b)) (λb=>w.heap.size<=b) a l/\(¬E=0->l=[])/\(E=0->∃d,o=some d/\dv (sk (M+1)) l d))
theorem qs{M:Nat}{E:Int}{o:Option (List (Bh (M+1)))}{w w':World}(a:¬E=0)(c:Below w.heap.size w w'):rM M E o w (.returned (.tuple #[.slice none 0 0,.int .i64 E])) w':=
 ⟨[],none,0,rfl,c,⟨ag _,aD _⟩,ae rfl,ae rfl,λ_=>rfl,λb=>(a b).elim⟩
theorem C9(M:Nat)(k u:Int)(s:ByteArray)(a:Option Addr)(l c:Nat)(w:World)(g:Int)(o:Option (List (Bh (M+1))))(E:Int)(J:Hid (E=if g=0 then B6 M o else g))(Q:Hid (∀w1,Below w.heap.size w w1->Calls Tryz.prog 42 #[.agg #[.int .i64 k,.int .i64 u,.string s,.slice a l c]] w1 λe w'=>e=.returned (.int .i64 g)/\Below w1.heap.size w1 w'))(H:Hid (g=0->∀w1,Below w.heap.size w w1->Calls Tryz.prog 48 #[.agg #[.int .i64 k,.int .i64 u,.string s,.slice a l c]] w1 (r9 M o w1))):Calls Tryz.prog 24 #[.agg #[.int .i64 k,.int .i64 u,.string s,.slice a l c]] w (rM M E o w):=by
 go_enter Tryz.func24,Tryz.ntmps24;go_wp2_with fail;refine(Q.out _ aG).mono ?_;rintro e w1 ⟨rfl,L⟩;have q:Hid (Below w.heap.size w w1):=aG.trans (L.mono (by simp));have m:=ai (pf w _ _ _ _ _ L);clear L Q;by_cases B:g=0
 ·subst B;have S:=ai (H.out (by simp) w1 q.out);have X:w1.cell? ⟨w.heap.size,0,none⟩=some (.int .i64 k):=am m.out 0;have Y:w1.cell? ⟨w.heap.size,1,none⟩=some (.int .i64 u):=am m.out 1;have Z:w1.cell? ⟨w.heap.size,2,none⟩=some (.string s):=am m.out 2;have aa:w1.cell? ⟨w.heap.size,3,none⟩=some (.slice a l c):=am m.out 3;have aj:w.heap.size<w1.heap.size:=(aE.1 m.out).1;have D:=ai (show E=B6 M o by simpa using J.out);clear H J;go_wp2_with fail;refine S.out.mono ?_;rintro e z ⟨p,x,A,af,rfl,j⟩;obtain⟨t,K⟩:∃t,p.length=t:=⟨_,rfl⟩;rw[K];have G:=ai K;have r:Hid (Below w.heap.size w z):=q.out.trans (j.out.1.mono q.out.size);clear K S X Y Z aa m;cases af
  ·have i:Hid (E=5):=by
     show E=5;rw[D.out];have d:=j.out.2.1;cases o with
     | none=>rfl
     | some f=>cases d
   have W:Hid (rM M E o w (.returned (.tuple #[.slice none 0 0,.int .i64 5])) z):=by
    have d:=qs (M:=M) (E:=E) (o:=o) (by rw[i.out];omega) r.out;rw[i.out]at d;rw[i.out];exact d
   go_wp2_with fail;exact ao (v:=.tuple #[.slice none 0 0,.int .i64 5]) (by simp[results,Tryz.results24,go_sem]) rfl W.out
  ·have F:Hid (∀h,Below z.heap.size z h->Calls Tryz.prog 46 #[.slice x t A] h λe w'=>e=.returned (.bool (jm (M+1) p))/\Below h.heap.size h w'):=λh T=>
     oc M p t G.out x A z.heap.size h (fl.below T j.out.2.2.2.1) (by have:=j.out.2.2.1;have:=G.out;unfold maxLen at*;omega) T.size
   obtain⟨b,y⟩:∃b,jm (M+1) p=b:=⟨_,rfl⟩;rw[y]at F;have R:=ai y;clear y;have I:Hid (∃f,o=some f/\dv (sk (M+1)) p f):=by
    have d:=j.out.2.1;cases o with
    | none=>cases d
    | some f=>exact⟨f,rfl,j.out.2.2.2.2.2 f rfl⟩
   cases b
   ·have i:Hid (E=5):=by
      show E=5;obtain⟨f,O,N⟩:=I.out;rw[D.out,O];show (if jm (M+1) f=true then (0:Int)else 5)=5;rw[<-Co N,R.out];rfl
    go_wp2_with (go_at_call 46;refine(F.out _ (ah _ _)).mono ?_;rintro e h ⟨rfl,n⟩;have C:=ai (r.out.trans (n.mono r.out.size));clear n);refine ao (v:=.tuple #[.slice none 0 0,.int .i64 5]) (by simp[results,Tryz.results24,go_sem]) rfl ?_;have d:=qs (M:=M) (E:=E) (o:=o) (by rw[i.out];omega) C.out;rw[i.out]at d;rw[i.out];exact d
   ·have U:Hid (E=0):=by
      show E=0;obtain⟨f,O,N⟩:=I.out;rw[D.out,O];show (if jm (M+1) f=true then (0:Int)else 5)=0;rw[<-Co N,R.out];rfl
    go_wp2_with (go_at_call 46;refine(F.out _ (ah _ _)).mono ?_;rintro e h ⟨rfl,n⟩;have P:=ai n;have C:=ai (r.out.trans (n.mono r.out.size));clear n);refine ao (v:=.tuple #[.slice x t A,.int .i64 0]) (by simp[results,Tryz.results24,go_sem]) rfl ?_;obtain⟨ak,al,ab,ad,ae,an⟩:=j.out;rw[U.out];exact⟨p,x,A,by rw[G.out],C.out,ab,(fl.below P.out ad).mono P.out.size,(bZ (dF _) 2 (mW (M+1)) x).1 _ _ _ (λb y=>au q.out.size y) ae,λd=>(d rfl).elim,λ_=>I.out⟩
 ·have ag:(g !=0)=true:=by simpa using B
  have V:Hid (E=g):=by
   show E=g;rw[J.out,if_neg B]
  clear H m;go_wp2_with fail;refine ao (v:=.tuple #[.slice none 0 0,.int .i64 g]) (by simp[results,Tryz.results24,go_sem]) rfl ?_;rw[V.out];exact qs B q.out
theorem Fs(M n:Nat)(g:n<=M+1)(x:Tm n)(B:Nat)(w:World)(c:In B w n x)(f:(ap n x).length<=2097152)(b:B<=w.heap.size):Calls Tryz.prog 24 #[de n x] w (rM M (Fr M n x) (yY M n x) w):=by
 cases n with
 | zero=>exact c.elim
 | succ n=>
 exact C9 M x.1.1 x.1.2.1 x.1.2.2 x.2.1.1 x.2.2.length x.2.1.2 w (bv (n+1) x) _ _ rfl (λd a=>dJ (n+1) x B d (c.below (a.mono b)) (au b a.size) f) (λe d a=>wP M (n+1) g x B d (c.below (a.mono b)) (aI.2 (bt.1 e).1) (au b a.size))
theorem ss{n:Nat}{x:Tm n}(a:bv n x=0):aA ⟨n,x⟩:=aI.2 (bt.1 a).1
theorem iw{n:Nat}{p:List (Bh (n+1))}(b:lY n p=0):jm (n+1) p=true/\bv (n+6) (cO n p)=0/\GG n p=cO n p:=by
 have a:=b;unfold lY at a;split at a
 ·rename_i c;exact⟨c,a,by unfold GG;rw[if_pos b]⟩
 ·omega
theorem Kn{n:Nat}{p:List (Bh (n+1))}(a:jm (n+1) p=true)(k:bv (n+6) (cO n p)=0):lY n p=0:=by
 unfold lY;rw[if_pos a];exact k
theorem El{n:Nat}{l r:List (Bh (n+1))}(a:dv (sk (n+1)) l r):lY n l=lY n r:=by
 unfold lY;rw[Co a,bI (tr a)]
theorem DV{M n:Nat}(i:n<=M+1){x:Tm n}(e:bv n x=0){a l:List (Bh (M+1))}(j:yY M n x=some a)(f:dv (sk (M+1)) l a)(h:jm (M+1) a=true):jm (M+1) l=true/\lY M l=0/\aw (M+6) (GG M l) n x=true/\(ap (M+6) (cO M l)).length=(ap n x).length:=by
 have g:=yZ M n i x (ss e) a j;have c:jm (M+1) l=true:=(Co f).trans h;have b:aw (M+6) (cO M l) n x=true:=bJ _ _ _ _ _ _ (tr f) g.1;have d:lY M l=0:=Kn c ((bI b).trans e);exact⟨c,d,by rw[(iw d).2.2];exact b,jw _ _ _ _ b⟩
theorem En{n:Nat}{p:List (Bh (n+1))}(i:lY n p=0){y:Tm (n+6)}(a:aw (n+6) y (n+6) (GG n p)=true):bv (n+6) y=0/\Fr (n+5) (n+6) y=0/\∀e l,yY (n+5) (n+6) y=some e->dv (sk (n+6)) l e->jm (n+6) l=true/\lY (n+5) l=0/\aw (n+11) (GG (n+5) l) (n+6) (GG n p)=true/\l.length=p.length/\(ap (n+11) (cO (n+5) l)).length=(ap (n+6) (cO n p)).length:=by
 obtain⟨j,k,f⟩:=iw i;rw[f]at a;have b:bv (n+6) y=0:=(bI a).trans k;obtain⟨e,d,h,m⟩:=Kf (n+5) (n+6) n (ag _) p j y (ss b) a;refine⟨b,?_,λt l c g=>?_⟩
 ·unfold Fr;rw[if_pos b,d];unfold B6;simp only[h,cR]
 ·rw[d]at c;injection c with c;subst c;obtain⟨o,q,r,s⟩:=DV (ag _) b d g h;exact⟨o,q,by rw[f];exact bJ _ _ _ _ _ _ r a,g.1.trans m,by rw[s];exact jw _ _ _ _ a⟩
def kH(lo:Nat)(room:Int)(K:Nat)(e:Nat->Prop)(B:Nat)(w:World):List (Int×ByteArray×Tc)->List Nat->Nat->Prop
 | [],[],c=>c<=B
 | x::l,b::bs,c=>∃a d,(c<=a/\a<=d)/\P1 lo b x.2.1 room x.2.2 [] K (λq=>a<=q/\q<d) w/\(∀q,a<=q->q<d->¬e q)/\kH lo room K e B w l bs d
 | _,_,_=>False
section
variable {lo K:Nat} {room:Int} {X:Nat->Prop} {B:Nat} {w:World}
theorem kH.le:{l:List (Int×ByteArray×Tc)}->{a:List Nat}->{c:Nat}->kH lo room K X B w l a c->c<=B
 | [],[],_,h=>h
 | [],_::_,_,h=>h.elim
 | _::_,[],_,h=>h.elim
 | _::_,_::_,_,⟨c1,c2,h1,_,_,h4⟩=>by have:=h4.le;omega
theorem kH.kept2{w':World}{S f:Nat->Prop}{e c0:Nat}(a:bi S w w')(j:∀q,c0<=q->q<B->S q->X q)(k:∀q,q<B->f q->X q)(i:B<=e):{l:List (Int×ByteArray×Tc)}->{g:List Nat}->{c:Nat}->c0<=c->kH lo room K X B w l g c->kH lo room K f e w' l g c
 | [],[],_,_,h=>au h i
 | [],_::_,_,_,h=>h.elim
 | _::_,[],_,_,h=>h.elim
 | _::_,_::_,_,hc,⟨c1,c2,h1,h2,h3,h4⟩=>by
  have o:=h4.le;exact⟨c1,c2,h1,h2.kept (S:=S) ⟨a.os,a.tape,a.output,a.size,a.block⟩ λb q d=>h3 b q.1 q.2 (j b (by omega) (by omega) d),λq m n d=>h3 q m n (k q (by omega) d),h4.kept2 a j k i (by omega)⟩
theorem kH.kept{w':World}{S b:Nat->Prop}{a:Nat}(i:bi S w w')(g:∀q,q<B->S q->X q)(h:∀q,q<B->b q->X q)(f:B<=a){l:List (Int×ByteArray×Tc)}{d:List Nat}{c:Nat}(e:kH lo room K X B w l d c):kH lo room K b a w' l d c:=e.kept2 (c0:=0) i (λq _=>g q) h f (aD _)
theorem kH.snoc{a B2 e b:Nat}{x:Int×ByteArray×Tc}(g:B<=a)(d:a<=B2/\B2<=e)(i:P1 lo b x.2.1 room x.2.2 [] K (λq=>a<=q/\q<B2) w)(j:∀q,a<=q->q<B2->¬X q):{l:List (Int×ByteArray×Tc)}->{f:List Nat}->{c:Nat}->kH lo room K X B w l f c->kH lo room K X e w (l++ [x]) (f++ [b]) c
 | [],[],_,h=>⟨a,B2,⟨au h g,d.1⟩,i,j,d.2⟩
 | [],_::_,_,h=>h.elim
 | _::_,[],_,h=>h.elim
 | _::_,_::_,_,⟨c1,c2,h1,h2,h3,h4⟩=>⟨c1,c2,h1,h2,h3,h4.snoc g d i j⟩
end
section
variable {p:mg} {s:Sy} {d:fX} {w:World}
theorem Iw{n:Nat}{x:Tm n}(room:Int)(nm:ByteArray)(b:bv n x=0):fu 13 (cn n x) room nm=fu n x room nm:=by
 have a:=dV b;unfold fu ip;rw[bI a,cw _ _ _ _ a,ku _ _ _ _ a]
theorem aV.made(z:aV p s d w){N ad:Nat}{pa:Option Addr}{pl pc:Nat}{t:List (Int×ByteArray×Tm (N+1))}(aA:w.ownsRow ad 146 6 (.slice pa pl pc) pl (t.flatMap λg=>Ki g.1 g.2.1 g.2.2))(au:t.length=pl)(Y:pl<=1000)(aD:∀g∈t,bv _ g.2.2=0/\In w.heap.size w _ g.2.2):Calls Tryz.prog 36 #[.pointer (some ⟨p.b,0,none⟩),.slice pa pl pc] w λe w'=>∃v b,e=.returned (.tuple #[v,.bool b])/\Hid (Below w.heap.size w w'/\b=s.made p.n p.prog p.room (t.map λg=>(g.1,g.2.1,cn _ g.2.2))/\(b=true->∃m a c,v=.slice a pl c/\m.length=pl/\w'.ownsRow w.heap.size 83 1 v pl (m.map tY)/\kH p.lo p.room (d.k+201) (λq=>v.ownBlock=some q) w'.heap.size w' (t.map λg=>(g.1,g.2.1,cn _ g.2.2)) m w.heap.size)):=by
 have aw:jm (p.n+1) p.prog=true:=(iw z.pg.2.2.2.1).1;obtain⟨aO,O,ae,_,an⟩:=pK aA (by decide) λg=>rfl;injection ae with ai aQ aP;subst ai;have F:∀f,f<pl->t[f]?=some (t.getD f (0,⟨#[]⟩,((0,0,⟨#[]⟩),(none,0),[]))):=λf i=>by
  rw[nH,az (by omega)];rfl
 generalize T:(λf=>t.getD f (0,⟨#[]⟩,((0,0,⟨#[]⟩),(none,0),[])))=h;have F:∀f,f<pl->t[f]?=some (h f):=λf i=>by rw[F f i,<-T]
 clear T;obtain⟨o,J⟩:∃o,o=t.map λg=>(g.1,g.2.1,cn _ g.2.2):=⟨_,rfl⟩;rw[<-J];have U:o.length=pl:=by rw[J,dN,au]
 have K:∀f,f<pl->o[f]?=some ((h f).1,(h f).2.1,cn _ (h f).2.2):=λf i=>by rw[J,df,F f i];rfl
 have W:∀f,f<pl->bv _ (h f).2.2=0/\In w.heap.size w _ (h f).2.2:=λf i=>aD _ (ax (F f i));have X:∀f,f<pl->fu 13 (cn _ (h f).2.2) p.room (h f).2.1=fu _ (h f).2.2 p.room (h f).2.1:=λf i=>Iw _ _ (W f i).1;have aE:∀f,f<pl->o.take (f+1)=o.take f++ [((h f).1,(h f).2.1,cn _ (h f).2.2)]:=λf i=>by
  rw[dz,K f i];rfl
 refine Dr p.b pa pl pc (s.may pl) p.room w (λf=>(h f).1) (λf=>(h f).2.2.1.1) (λf=>(h f).2.2.1.2.1) (λf=>(h f).2.1) (λf=>(h f).2.2.1.2.2) (λf=>(h f).2.2.2.1.1) (λf=>(h f).2.2.2.2.length) (λf=>(h f).2.2.2.1.2) (λf=>mF p.n p.prog (h f).2.1) (λf=>fu _ (h f).2.2 p.room (h f).2.1) (λf m v j=>kH p.lo p.room (d.k+201) (λq=>v.ownBlock=some q) j.heap.size j (o.take f) m w.heap.size/\∀q,v.ownBlock=some q->q<j.heap.size)
  (λf G m v j=>∃x,(w.heap.size<=x/\x<=j.heap.size)/\(kH p.lo p.room (d.k+201) (λq=>v.ownBlock=some q) x j (o.take f) m w.heap.size)/\(∀q,v.ownBlock=some q->q<x)/\P1 p.lo G (h f).2.1 p.room (cn _ (h f).2.2) [] (d.k+201) (λq=>x<=q/\q<j.heap.size) j) (λv b w'=>Below w.heap.size w w'/\b=s.made p.n p.prog p.room o/\(b=true->∃m a c,v=.slice a pl c/\m.length=pl/\w'.ownsRow w.heap.size 83 1 v pl (m.map tY)/\kH p.lo p.room (d.k+201) (λq=>v.ownBlock=some q) w'.heap.size w' o m w.heap.size)) Y z.lo.2 z.cells.2.1 (λf i=>?_) (z.mayHave pl Y) (λf j i l=>(z.later l).knows _) (λf m v j i r l E=>?_) ?_ (λf m v j H E l=>?_) (λf G m a c D O j ab H B am l A ao ap=>?_) (λj l u=>?_) λj m a c l aj Q ak al R=>?_
 ·obtain⟨D,I,P,y⟩:=an f _ (F f i);exact⟨D,I,P,y 0 _ rfl,y 1 _ rfl,y 2 _ rfl,y 3 _ rfl,y 4 _ rfl,y 5 _ rfl⟩
 ·have aT:=AJ aw r;obtain⟨aG,aH⟩:=W f i;refine(P1.new _ (h f).2.2 p.room (h f).2.1 j (by omega) ((aH.below l).mono l.size) (eO aG)).mono ?_;rintro e w' ⟨q,rfl,aa⟩;obtain⟨L,aU,aI⟩:=aa.out;refine⟨q,rfl,L,λe=>?_⟩;obtain⟨G,I,P,y,ah⟩:=aI e;have:=z.lo.1;have:=l.size;refine⟨G,I,j.heap.size,⟨l.size,L.size⟩,E.1.kept (aC L λ_=>False) (λ_ _ g=>g.elim) (λ_ _ g=>g) (ag _),E.2,ah.mono (λb g=>g) (by omega) λb g=>⟨by omega,g.2⟩⟩
 ·exact⟨ag _,(λq g=>by cases g)⟩
 ·exact⟨E.1.kept (aC l λ_=>False) (λ_ _ g=>g.elim) (λ_ _ g=>g) l.size,λq g=>aM (E.2 q g) l.size⟩
 ·obtain⟨x,⟨aW,aX⟩,aJ,Z,aL⟩:=am;have ar:bi (λq=>(Value.slice a f c).ownBlock=some q) ab H:=⟨A.os,A.tape,A.output,A.size,λk r av=>A.block k r λe=>av e.symm⟩;have r:bi (λq=>(Value.slice a f c).ownBlock=some q) j H:=(aC l _).trans ar λ_ _ e=>e;have aR:=l.size;have aS:=A.size;have V:∀q,q<j.heap.size->(Value.slice (some ⟨D,0,none⟩) (f+1) O).ownBlock=some q->(Value.slice a f c).ownBlock=some q:=λq ay g=>by
   obtain rfl:D=q:=aq g;rcases ao with e|e
   ·exact e
   ·omega
  refine⟨?_,λq g=>?_⟩
  ·rw[aE f B];refine kH.snoc (ag x) (B2:=j.heap.size) (by omega) ?_ ?_ (aJ.kept r (λq _ g=>g) (λq ay g=>V q (by omega) g) (ag _))
   ·exact aL.kept (S:=λq=>(Value.slice a f c).ownBlock=some q) ⟨r.os,r.tape,r.output,r.size,r.block⟩ λb g C=>by have:=Z b C;omega
   ·exact λq M C aN=>by have:=Z q (V q C aN);omega
  ·obtain rfl:D=q:=aq g;exact ap
 ·refine⟨l,?_,(λg=>by cases g)⟩;unfold Sy.made;rw[U];rcases u with u|⟨f,i,u⟩
  ·rw[u];rfl
  ·refine Eq.symm (Bool.and_eq_false_iff.2 (af ?_));rw[List.all_eq_false];refine⟨_,ax (K f i),?_⟩;simp only[aB,cr,not_and];intro M C;rw[X f i]at C;rcases u with u|u
   ·rw[u]at M;cases M
   ·exact u C
 ·refine⟨l,?_,λ_=>⟨m,a,c,rfl,ak,al,?_⟩⟩
  ·unfold Sy.made;rw[U,aj,dZ,eq_comm,bT];intro aY aF;obtain⟨f,i⟩:=List.mem_iff_getElem?.1 aF;have B:f<pl:=by have:=(aK.1 i).1;omega
   rw[K f B]at i;obtain rfl:=aq i;simp only[aB,cr];exact⟨(Q f B).1,(X f B).trans (Q f B).2⟩
  ·rw[bk (by omega)]at R;exact R.1
end
theorem wR(x:Nat)(a O P:Int)(Q:ByteArray)(ma:Option Addr)(T S:Nat)(f:Int)(sa:Option Addr)(sl sc:Nat)(pa:Option Addr)(pl pc:Nat)(ka:Option Addr)(kl kc:Nat)(am:Option Addr)(vl aw:Nat)(aa:Nat->Nat)(C D E:Nat->Int)(F:Nat->ByteArray)(xa:Nat->Option Addr)(G xc:Nat->Nat)(al:Nat->Int)(w:World)(k o p:Nat->Nat->World->Prop)(R:World->Prop)(aG:vl<=1000)(aF:sl<=1000)(aE:kl<=1000)(X:Hid (∀q W,Below w.heap.size w W->w.heap.size<=q->W.heap[q]?=some (.cells #[.int .i64 O,.int .i64 P,.string Q,.slice ma T S,.int .i64 f,.slice sa sl sc,.slice pa pl pc,.slice ka kl kc] 96)->k q 0 W))(H:Hid (∀q W,k q vl W->o q 0 W))(y:Hid (∀q W,o q sl W->p q 0 W))(i:Hid (∀q j W,(k q j W\/o q j W\/p q j W)->W.heap[q]?=some (.cells #[.int .i64 O,.int .i64 P,.string Q,.slice ma T S,.int .i64 f,.slice sa sl sc,.slice pa pl pc,.slice ka kl kc] 96)))(I:Hid (∀q j W,j<vl->k q j W->(∃g,am=some ⟨g,0,none⟩/\W.cell? ⟨g,j,none⟩=some (.pointer (some ⟨aa j,0,none⟩)))/\Hid (Calls Tryz.prog 29 #[.pointer (some ⟨x,0,none⟩),.int .i64 a,.pointer (some ⟨aa j,0,none⟩)] W λe w'=>e=.returned (.tuple #[])/\Hid (k q (j+1) w'))))(z:Hid (∀q j W,j<sl->o q j W->(∃g,sa=some ⟨g,0,none⟩/\W.cell? ⟨g,j*5,none⟩=some (.int .i64 (C j))/\W.cell? ⟨g,j*5+1,none⟩=some (.int .i64 (D j))/\W.cell? ⟨g,j*5+2,none⟩=some (.int .i64 (E j))/\W.cell? ⟨g,j*5+3,none⟩=some (.string (F j))/\W.cell? ⟨g,j*5+4,none⟩=some (.slice (xa j) (G j) (xc j)))/\Hid (∀Z,Below W.heap.size W Z->Calls Tryz.prog 61 #[.pointer (some ⟨x,0,none⟩),.int .i64 a,.int .i64 (C j),.agg #[.int .i64 (D j),.int .i64 (E j),.string (F j),.slice (xa j) (G j) (xc j)]] Z λe w'=>e=.returned (.tuple #[])/\Hid (o q (j+1) w'))))(t:Hid (∀q j W,j<kl->p q j W->(∃g,ka=some ⟨g,0,none⟩/\W.cell? ⟨g,j,none⟩=some (.int .i64 (al j)))/\Hid (Calls Tryz.prog 62 #[.pointer (some ⟨x,0,none⟩),.int .i64 a,.int .i64 (al j)] W λe w'=>e=.returned (.tuple #[])/\Hid (p q (j+1) w'))))(s:Hid (∀q W,p q kl W->(f=1->Calls Tryz.prog 37 #[.pointer (some ⟨x,0,none⟩),.int .i64 a,.int .i64 1] W λe w'=>e=.returned (.tuple #[])/\Hid (R w'))/\(f≠1->R W))):Calls Tryz.prog 38 #[.pointer (some ⟨x,0,none⟩),.int .i64 a,.agg #[.int .i64 O,.int .i64 P,.string Q,.slice ma T S,.int .i64 f,.slice sa sl sc,.slice pa pl pc,.slice ka kl kc],.slice am vl aw] w λe w'=>e=.returned (.tuple #[])/\Hid (R w'):=by
 go_enter Tryz.func38,Tryz.ntmps38;go_upto_region 1 with fail;generalize m:w.alloc _=an;obtain⟨q,B⟩:∃q,q=w.heap.size:=⟨_,rfl⟩;rw[<-B];have V:Hid (k q 0 an):=X.out q an (by rw[<-m];exact(ah _ _).alloc (ag _) _) (di B.symm) (by rw[<-m,B];exact ay _ _);clear m B X;go_wp2_with fail;go_loopw [9,16] (λ_ c wr=>∃(j:Nat),j<=vl/\c=.int .i64 j/\Hid (k q j wr)) (λ_ c _=>vl-(intOf c).toNat)
 case atStart=>exact⟨0,aD _,rfl,V.out⟩
 case round=>
 obtain⟨j,A,rfl,b⟩:=hrel;by_cases l:j<vl
 ·obtain⟨⟨g,rfl,M⟩,n⟩:=I.out q j wr l b.out;have aj:(0:Int)<=(j:Int):=by omega
  have ak:(j:Int)<(vl:Int):=by omega
  clear H y i I z t s b;go_wp2_with fail;refine n.out.mono ?_;rintro e d ⟨rfl,h⟩;go_wp2_with fail;go_roundw
  case rel=>exact⟨j+1,by omega,by go_num,h.out⟩
  case measure=>simp[intOf];omega
 obtain rfl:j=vl:=by omega
 have K:=ai (H.out _ _ b.out);clear b I H V A l;have au:wr.cell? ⟨q,5,none⟩=some (.slice sa sl sc):=ab (i.out q 0 wr (af (ae K.out))) 5;go_wp2_with fail;clear au;go_loopw [11,28] (λ_ c U=>∃(j:Nat),j<=sl/\c=.int .i64 j/\Hid (o q j U)) (λ_ c _=>sl-(intOf c).toNat)
 case atStart=>exact⟨0,aD _,rfl,K.out⟩
 case round=>
 clear K;obtain⟨j,A,rfl,b⟩:=hrel;by_cases l:j<sl
 ·obtain⟨⟨g,rfl,M,ap,aq,ar,ad⟩,n⟩:=z.out q j _ l b.out;have aj:(0:Int)<=(j:Int):=by omega
  have ak:(j:Int)<(sl:Int):=by omega
  clear y i z t s b;go_upto_region 9 with fail;generalize m:World.alloc _ _=d;have r:d.heap[wr.heap.size]?=some (.cells #[.int .i64 (C j),.int .i64 (D j),.int .i64 (E j),.string (F j),.slice (xa j) (G j) (xc j)] 149):=by
   rw[<-m];exact ay _ _
  have ao:=ai (n.out d (by rw[<-m];exact(ah _ _).alloc (ag _) _));generalize wr.heap.size=u at*;have ax:d.cell? ⟨u,0,none⟩=some (.int .i64 (C j)):=ab r 0;have d1:d.cell? ⟨u,1,none⟩=some (.int .i64 (D j)):=ab r 1;have az:d.cell? ⟨u,2,none⟩=some (.int .i64 (E j)):=ab r 2;have aA:d.cell? ⟨u,3,none⟩=some (.string (F j)):=ab r 3;have aB:d.cell? ⟨u,4,none⟩=some (.slice (xa j) (G j) (xc j)):=ab r 4;clear m r n M ap aq ar ad;go_wp2_with fail;refine ao.out.mono ?_;rintro e aH ⟨rfl,h⟩;go_wp2_with fail;go_roundw
  case rel=>exact⟨j+1,by omega,by go_num,h.out⟩
  case measure=>simp[intOf];omega
 obtain rfl:j=sl:=by omega
 have L:=ai (y.out _ _ b.out);clear b z y A l;have av:wr.cell? ⟨q,7,none⟩=some (.slice ka kl kc):=ab (i.out q 0 wr (af (af L.out))) 7;go_wp2_with fail;clear av;go_loopw [13,43] (λ_ c U=>∃(j:Nat),j<=kl/\c=.int .i64 j/\Hid (p q j U)) (λ_ c _=>kl-(intOf c).toNat)
 case atStart=>exact⟨0,aD _,rfl,L.out⟩
 case round=>
 clear L;obtain⟨j,A,rfl,b⟩:=hrel;by_cases l:j<kl
 ·obtain⟨⟨g,rfl,M⟩,n⟩:=t.out q j _ l b.out;have aj:(0:Int)<=(j:Int):=by omega
  have ak:(j:Int)<(kl:Int):=by omega
  clear i t s b;go_wp2_with fail;refine n.out.mono ?_;rintro e d ⟨rfl,h⟩;go_wp2_with fail;go_roundw
  case rel=>exact⟨j+1,by omega,by go_num,h.out⟩
  case measure=>simp[intOf];omega
 obtain rfl:j=kl:=by omega
 have ad:wr.cell? ⟨q,4,none⟩=some (.int .i64 f):=ab (i.out q _ wr (af (af b.out))) 4;have Y:=ai (s.out q _ b.out);clear b t i s;by_cases N:f=1
 ·subst N;have J:=ai (Y.out.1 rfl);go_wp2_with fail;refine J.out.mono ?_;rintro e d ⟨rfl,h⟩;go_wp2_with fail;exact dO (v:=.tuple #[]) (by simp[results]) rfl ⟨rfl,h.out⟩
 ·have J:=ai (Y.out.2 N);have aC:(f==1)=false:=by simpa using N
  go_wp2_with fail;exact dO (v:=.tuple #[]) (by simp[results]) rfl ⟨rfl,J.out⟩
def oq(M:Nat->Prop)(a:Nat)(d b:fX)(w w':World):Prop:=bi (λq=>d.ow q<0) w w'/\(∀q,q<w.heap.size->¬M q->b.ow q=d.ow q)/\(∀q,q<w.heap.size->M q->0<=b.ow q)/\b.k=d.k/\b.es.length<=d.es.length+a/\b.wn<=d.wn+a/\b.bn<=d.bn+a
section
variable {p:mg} {s:Sy} {d d1 d2:fX} {w w1 w2:World} {M:Nat->Prop} {a b:Nat}
theorem oq.up(m:oq M a d d1 w w1)(k:dB b d1 d2 w1 w2):oq M (a+b) d d2 w w2:=by
 obtain⟨h,i,j,n,q,r,s⟩:=m;obtain⟨o,l,p,u,v,x⟩:=k;have t:=h.size;refine⟨h.trans o λc e g=>?_,λc e f=>(l c (by omega)).trans (i c e f),λc e f=>by rw[l c (by omega)];exact j c e f,p.trans n,by omega,by omega,by omega⟩;by_cases f:M c
 ·have:=j c e f;omega
 ·rw[i c e f]at g;exact g
theorem oq.ad{M':Nat->Prop}(m:oq M a d d1 w w1)(k:JM M' b d1 d2 w1 w2)(o:∀q,M' q->M q):oq M (a+b) d d2 w w2:=by
 obtain⟨h,i,j,n,t,u,v⟩:=m;obtain⟨p,l,r,s,y,z,A⟩:=k;have x:=h.size;refine⟨h.trans p λq e g=>?_,λq e c=>(l q (by omega) λf=>c (o q f)).trans (i q e c),λq e c=>?_,s.trans n,by omega,by omega,by omega⟩
 ·by_cases c:M q
  ·have:=j q e c;omega
  ·rw[i q e c]at g;exact g
 ·by_cases f:M' q
  ·have:=r q f;omega
  ·rw[l q (by omega) f];exact j q e c
theorem oq.mono(c:oq M a d d1 w w1)(l:a<=b):oq M b d d1 w w1:=by
 obtain⟨e,f,g,h,i,j,k⟩:=c;exact⟨e,f,g,h,by omega,by omega,by omega⟩
theorem CA.ug{m:Nat}{x:Tm m}(e:CA d w x)(k:oq M a d d1 w w1):CA d1 w1 x:=by
 have g:=eR k.1 (D:=λb=>0<=d.ow b/\b<w.heap.size) (λb c f=>by omega) ⟨e.1,In.offB e.2 e.1⟩;refine⟨g.1,g.2.mono λb c=>?_⟩;by_cases f:M b
 ·exact k.2.2.1 b c.2 f
 ·rw[k.2.1 b c.2 f];exact c.1
theorem ye(a:Int):(l:List (Int×ByteArray×Tc))->(s:Sy)->(l.foldl (λs x=>s.add a x.2.1 x.2.2) s).ps.length=s.ps.length+l.length/\(l.foldl (λs x=>s.add a x.2.1 x.2.2) s).last=s.last+l.length
 | [],s=>by simp
 | x::l,s=>by
  have b:=ye a l (s.add a x.2.1 x.2.2);rw[iF,b.1,b.2];simp only[Sy.add,Sy.tell,aW,aZ,lf];omega
theorem aV.follow(aA:aV p s d w){a:Int}(ak:cY a)(i:Tk)(a4:xo 8 i.sends i.spawns i.links)(y0 y1:Int)(y2:ByteArray)(ya:Option Addr)(yl yc:Nat){N av aR c B:Nat}{sa:Option Addr}{sl sc:Nat}{pa:Option Addr}{pl pc:Nat}{ka:Option Addr}{kl kc:Nat}{O:Option Addr}{vl S:Nat}{L:List (Int×Tm (N+1))}{K:List Nat}{au:Nat->Prop}(bd:w.ownsRow av 149 5 (.slice sa sl sc) sl (L.flatMap λg=>Jp g.1 g.2))(a6:w.ownsRow av 3 1 (.slice ka kl kc) kl (i.links.map λu=> .int .i64 u))(bf:w.ownsRow aR 83 1 (.slice O vl S) vl (K.map tY))(a7:L.length=sl/\i.links.length=kl/\K.length=vl/\i.spawns.length=vl)(am:L.map (λg=>(g.1,cn _ g.2))=i.sends)(be:∀g∈L,bv _ g.2=0/\CA d w g.2)(a9:∀q,((Value.slice sa sl sc).ownBlock=some q\/(Value.slice ka kl kc).ownBlock=some q\/(Value.slice O vl S).ownBlock=some q)->0<=d.ow q)(a1:kH p.lo p.room (d.k+201) au B w i.spawns K c)(br:B<=w.heap.size)(how:∀q,c<=q->q<B->d.ow q=0)(a8:s.may vl=true)(bu:d.k<=47000)(bs:d.es.length<=97000)(bB:d.wn<=900000)(bt:d.bn<=900000):Calls Tryz.prog 38 #[.pointer (some ⟨p.b,0,none⟩),.int .i64 a,Kx y0 y1 y2 ya yl yc i.fate sa sl sc pa pl pc ka kl kc,.slice O vl S] w λe w'=>e=.returned (.tuple #[])/\Hid (∃P,aV p (s.follow a i) P w'/\oq (λq=>c<=q/\q<B) 200 d P w w'):=by
 obtain⟨bg,bC,bD,bE⟩:=a7;obtain⟨⟨ay,bp,bq⟩,aX,aY⟩:=a4;have bz:=FL a8;have bA:sl<=8:=by rw[<-bg];rw[<-am,dN]at ay;exact ay
 have U:∀{E:Type}(l:List E)(g:E)(f:Nat),f<l.length->l[f]?=some (l.getD f g):=λl g f j=>by
  rw[nH,az j];rfl
 obtain⟨n,ab⟩:∃n:Nat->Int×Tm (N+1),∀f,f<sl->L[f]?=some (n f):=⟨_,λf j=>U L (0,((0,0,⟨#[]⟩),(none,0),[])) f (by omega)⟩;obtain⟨ar,ah⟩:∃n:Nat->Int,∀f,f<kl->i.links[f]?=some (n f):=⟨_,λf j=>U i.links 0 f (by omega)⟩;obtain⟨ap,aB⟩:∃n:Nat->Nat,∀f,f<vl->K[f]?=some (n f):=⟨_,λf j=>U K 0 f (by omega)⟩;obtain⟨bl,aD⟩:∃n:Nat->Int×ByteArray×Tc,∀f,f<vl->i.spawns[f]?=some (n f):=⟨_,λf j=>U i.spawns (0,⟨#[]⟩,Ha) f (by omega)⟩;have al:∀q,((Value.slice sa sl sc).ownBlock=some q\/(Value.slice ka kl kc).ownBlock=some q\/(Value.slice O vl S).ownBlock=some q)->¬d.ow q<0:=λq g=>by have:=a9 q g;omega
 have a2:∀h,bi (λq=>d.ow q<0) w h->∀f,f<sl->∃o,sa=some ⟨o,0,none⟩/\∀(t:Nat)(u:Value),(Jp (n f).1 (n f).2)[t]?=some u->h.cell? ⟨o,f*5+t,none⟩=some u:=λh Q f j=>by
  obtain⟨_,_,y,_,D⟩:=pK (aT bd Q λq g=>al q (ae g)) (by decide) λg=>rfl;injection y with y;subst y;obtain⟨o,A,_,C⟩:=D f _ (ab f j);exact⟨o,A,C⟩
 have a0:∀h,bi (λq=>d.ow q<0) w h->∀f,f<kl->∃o,ka=some ⟨o,0,none⟩/\h.cell? ⟨o,f,none⟩=some (.int .i64 (ar f)):=λh Q f j=>by
  have R:=aT a6 Q λq g=>al q (af (ae g));rw[List.map_eq_flatMap]at R;obtain⟨_,_,y,_,D⟩:=pK R (by decide) λg=>rfl;injection y with y;subst y;obtain⟨o,A,_,C⟩:=D f _ (ah f j);have:=C 0 _ rfl;simp only[Nat.mul_one,iJ]at this;exact⟨o,A,this⟩
 have a3:∀h,bi (λq=>d.ow q<0) w h->∀f,f<vl->∃o,O=some ⟨o,0,none⟩/\h.cell? ⟨o,f,none⟩=some (.pointer (some ⟨ap f,0,none⟩)):=λh Q f j=>by
  have R:=aT bf Q λq g=>al q (af (af g));rw[List.map_eq_flatMap]at R;obtain⟨_,_,y,_,D⟩:=pK R (by decide) λg=>rfl;injection y with y;subst y;obtain⟨o,A,_,C⟩:=D f _ (aB f j);have:=C 0 _ rfl;simp only[Nat.mul_one,iJ]at this;exact⟨o,A,this⟩
 have aG:∀{E:Type}{l:List E}{f:Nat}{g:E},l[f]?=some g->l.drop f=g::l.drop (f+1):=λ{E l f g} e=>by
  obtain⟨aZ,rfl⟩:=aK.1 e;exact eA aZ
 have an:∀{E:Type}{l:List E}{f:Nat}{g:E},l[f]?=some g->l.take (f+1)=l.take f++ [g]:=λ{E l f g} e=>by
  rw[dz,e];rfl
 obtain⟨V,aJ⟩:∃V,V=i.spawns.foldl (λs x=>s.add a x.2.1 x.2.2) s:=⟨_,rfl⟩;obtain⟨W,aL⟩:∃W,W=i.sends.foldl (λs x=>s.send a x.1 x.2) V:=⟨_,rfl⟩;obtain⟨X,aM⟩:∃X,X=i.links.foldl (λs x=>s.link a x) W:=⟨_,rfl⟩;have bc:s.follow a i=if i.fate=1 then X.fin a 1 else X:=by rw[aM,aL,aJ];rfl
 let aw:Obj:=.cells #[.int .i64 y0,.int .i64 y1,.string y2,.slice ya yl yc,.int .i64 i.fate,.slice sa sl sc,.slice pa pl pc,.slice ka kl kc] 96;let Z:Nat->Prop:=λq=>c<=q/\q<B;let aq:Sy->Nat->Nat->World->Prop:=λbh k q h=>∃d1,aV p bh d1 h/\oq Z k d d1 w h/\(w.heap.size<=q/\q<h.heap.size/\h.heap[q]?=some aw/\d1.ow q=0)
 refine wR p.b a y0 y1 y2 ya yl yc i.fate sa sl sc pa pl pc ka kl kc O vl S ap (λf=>(n f).1) (λf=>(n f).2.1.1) (λf=>(n f).2.1.2.1) (λf=>(n f).2.1.2.2) (λf=>(n f).2.2.1.1) (λf=>(n f).2.2.2.length) (λf=>(n f).2.2.1.2) ar w
  (λq f h=>∃d1,aV p ((i.spawns.take f).foldl (λs x=>s.add a x.2.1 x.2.2) s) d1 h/\oq Z f d d1 w h/\(w.heap.size<=q/\q<h.heap.size/\h.heap[q]?=some aw/\d1.ow q=0)/\∃T,c<=T/\kH p.lo p.room (d.k+201) au B h (i.spawns.drop f) (K.drop f) T/\∀q,T<=q->q<B->d1.ow q=0)
  (λq f h=>aq ((i.sends.take f).foldl (λs x=>s.send a x.1 x.2) V) (vl+2*f) q h) (λq f h=>aq ((i.links.take f).foldl (λs x=>s.link a x) W) (vl+2*sl+f) q h) (λw'=>∃P,aV p (s.follow a i) P w'/\oq Z 200 d P w w') (by omega) (by omega) (by omega) (λq h ai aH aF=>?_) (λq h z=>?_) (λq h z=>?_) (λq f h z=>?_) (λq f h j z=>?_) (λq f h j z=>?_) (λq f h j z=>?_) λq h z=>?_
 ·have bb:=(aE.1 aF).1;refine⟨d,aA.later ai,⟨aC ai _,λ_ _ _=>rfl,λq _ g=>by rw[how q g.1 g.2];exact j8 0,rfl,ag _,ag _,ag _⟩,⟨aH,bb,aF,?_⟩,c,ag _,a1.kept (aC ai λ_=>False) (λ_ _ g=>g.elim) (λ_ _ g=>g) (ag _),how⟩;by_cases g:d.ow q=0
  ·exact g
  ·have:=(aA.low q g).2;omega
 ·obtain⟨d1,r,m,F,_⟩:=z;rw[bk (by omega),<-aJ]at r;exact⟨d1,r,m,F⟩
 ·obtain⟨d1,r,m,F⟩:=z;rw[bk (by rw[<-am,dN];omega),<-aL]at r;exact⟨d1,r,m,F⟩
 ·rcases z with⟨d1,_,_,F,_⟩|⟨d1,_,_,F⟩|⟨d1,_,_,F⟩
  ·exact F.2.2.1
  ·exact F.2.2.1
  ·exact F.2.2.1
 ·obtain⟨d1,r,m,⟨A,G,C,H⟩,T,bF,aO,ao⟩:=z;refine⟨a3 h m.1 f j,?_⟩;rw[aG (aD f j),aG (aB f j)]at aO;obtain⟨aS,aa,bG,aP,_,aQ⟩:=aO;have a5:=ye a (i.spawns.take f) s;rw[dn]at a5;have bx:=aQ.le;have bw:=m.2.2.2.1;refine(r.add a (M:=λq=>aS<=q/\q<aa) (aP.mono (λ_ g=>g) (by omega) (P1.lie2 aP)) (λq g=>ao q (by omega) (by omega)) (by omega) (by omega) (by have:=m.2.2.2.2.1;omega)).mono ?_;rintro e w' ⟨rfl,I⟩;obtain⟨d2,J,v⟩:=I.out;have aI:=v.1.size;refine⟨rfl,d2,?_,m.ad v λq g=>⟨by omega,by omega⟩,⟨A,by omega,?_,?_⟩,aa,by omega,aQ.kept2 (c0:=aa) v.1 (λq aH ba g=>?_) (λ_ _ g=>g) (ag _) (ag _),λq bH bj=>?_⟩
  ·rw[an (aD f j),ld];exact J
  ·rw[v.1.block q G (by rw[H];decide)];exact C
  ·rw[v.2.1 q G λg=>by omega];exact H
  ·have:=ao q (by omega) ba;omega
  ·have:=m.1.size;rw[v.2.1 q (by omega) λg=>by omega];exact ao q (by omega) bj
 ·obtain⟨d1,r,m,A,G,C,H⟩:=z;obtain⟨o,y,D⟩:=a2 h m.1 f j;refine⟨⟨o,y,D 0 _ rfl,D 1 _ rfl,D 2 _ rfl,D 3 _ rfl,D 4 _ rfl⟩,λbm aj=>?_⟩;obtain⟨aU,aW⟩:=be _ (ax (ab f j));have aN:i.sends[f]?=some ((n f).1,cn _ (n f).2):=by rw[<-am,df,ab f j];rfl
  refine((r.later aj).send ⟨ak,aX _ (ax aN)⟩ (n f).2 ((aW.ug m).up (dB.later d1 aj)) aU (by have:=m.2.2.2.2.2.1;omega) (by have:=m.2.2.2.2.1;omega)).mono ?_;rintro e w' ⟨rfl,I⟩;obtain⟨d2,J,v⟩:=I.out;have Y:=(dB.later d1 aj).trans v;have aI:=Y.1.size;refine⟨rfl,d2,?_,(m.up Y).mono (by omega),A,by omega,?_,?_⟩
  ·rw[an aN,ld];exact J
  ·rw[Y.1.block q G (by rw[H];decide)];exact C
  ·rw[Y.2.1 q G];exact H
 ·obtain⟨d1,r,m,A,G,C,H⟩:=z;refine⟨a0 h m.1 f j,?_⟩;refine(r.link ak (aY _ (ax (ah f j))) (by have:=m.2.2.2.2.2.2;omega)).mono ?_;rintro e w' ⟨rfl,I⟩;obtain⟨d2,J,v⟩:=I.out;have aI:=v.1.size;refine⟨rfl,d2,?_,(m.up v).mono (by omega),A,by omega,?_,?_⟩
  ·rw[an (ah f j),ld];exact J
  ·rw[v.1.block q G (by rw[H];decide)];exact C
  ·rw[v.2.1 q G];exact H
 ·obtain⟨d1,r,m,A,G,C,H⟩:=z;rw[bk (by omega),<-aM]at r;rw[bc];refine⟨λe=>?_,λe=>⟨d1,by rw[if_neg e];exact r,m.mono (by omega)⟩⟩;refine(r.fin ak (by have:=m.2.2.2.2.1;omega)).mono ?_;rintro bo w' ⟨rfl,I⟩;obtain⟨d2,J,v⟩:=I.out;exact⟨rfl,d2,by rw[if_pos e];exact J,(m.up v).mono (by omega)⟩
end
structure T8 where
 y0:Int
 y1:Int
 y2:ByteArray
 ya:Option Addr
 yl:Nat
 yc:Nat
 f:Int
 sa:Option Addr
 sl:Nat
 sc:Nat
 pa:Option Addr
 pl:Nat
 pc:Nat
 ka:Option Addr
 kl:Nat
 kc:Nat
theorem Lb{w:World}{q:Nat}{g:Array Value}{T:TypeId}{fr:Nat×Nat}(h:w.heap[q]?=some (.cells g T fr))(j:g.size=8)(v0 v1 v2 v3 c d e f:Value):((((((((w.setCell ⟨q,0,none⟩ v0).setCell ⟨q,1,none⟩ v1).setCell ⟨q,2,none⟩ v2).setCell ⟨q,3,none⟩ v3).setCell ⟨q,4,none⟩ c).setCell ⟨q,5,none⟩ d).setCell ⟨q,6,none⟩ e).setCell ⟨q,7,none⟩ f).heap[q]?=some (.cells #[v0,v1,v2,v3,c,d,e,f] T fr)/\bi (λb=>b=q) w ((((((((w.setCell ⟨q,0,none⟩ v0).setCell ⟨q,1,none⟩ v1).setCell ⟨q,2,none⟩ v2).setCell ⟨q,3,none⟩ v3).setCell ⟨q,4,none⟩ c).setCell ⟨q,5,none⟩ d).setCell ⟨q,6,none⟩ e).setCell ⟨q,7,none⟩ f):=by
 refine⟨?_,(((((((bH w q 0 v0).trans (bH _ q 1 v1) λ_ _ a=>a).trans (bH _ q 2 v2) λ_ _ a=>a).trans (bH _ q 3 v3) λ_ _ a=>a).trans (bH _ q 4 c) λ_ _ a=>a).trans (bH _ q 5 d) λ_ _ a=>a).trans (bH _ q 6 e) λ_ _ a=>a).trans (bH _ q 7 f) λ_ _ a=>a⟩;obtain⟨l⟩:=g;have i:l.length=8:=by simpa using j
 match l,i with
 | [a0,a1,a2,a3,a4,a5,a6,a7],_=>simp[World.setCell,bK,h]
def JK(e:T8->Int->World->World->Prop)(w:World)(q:Nat)(t:T8)(u:Int)(d:World):Prop:=
 ∃a c,Below w.heap.size w a/\e t u a c/\(w.heap.size<=q/\(q<a.heap.size\/c.heap.size<=q))/\d.heap[q]?=some (.cells #[.int .i64 t.y0,.int .i64 t.y1,.string t.y2,.slice t.ya t.yl t.yc,.int .i64 t.f,.slice t.sa t.sl t.sc,.slice t.pa t.pl t.pc,.slice t.ka t.kl t.kc] 96)/\bi (λb=>b=q) c d
theorem vk(g:Nat)(Z:Option Nat)(a S Y:Int)(N:Option Addr)(P O:Nat)(aa:Value)(F:Bool)(w:World)(E:T8->Int->World->World->Prop)(M:Nat->T8->World->Prop)(C:Nat->T8->Value->Bool->World->Prop)(R:Int->World->Prop)(aS:IntKind.i64.wrap (S+1)=Y)(aY:g<w.heap.size)(ad:Hid (w.cell? ⟨g,0,none⟩=some (.slice N P O)/\w.cell? ⟨g,2,none⟩=some (.int .i64 S)/\w.cell? ⟨g,3,none⟩=some (.map Z)))(ar:(Instr.lookup 64 (.map Z) (.int .i64 a) true).run Tryz.prog w=.ok (.tuple #[aa,.bool F]) w)(J:Hid (F=false->R 4 w))(L:Hid (F=true->∀W,Below w.heap.size w W->Calls Tryz.prog 34 #[aa,.slice N P O,.int .i64 a,.int .i64 Y] W λe w'=>∃(t:T8)(u:Int),e=.returned (.tuple #[.agg #[.int .i64 t.y0,.int .i64 t.y1,.string t.y2,.slice t.ya t.yl t.yc,.int .i64 t.f,.slice t.sa t.sl t.sc,.slice t.pa t.pl t.pc,.slice t.ka t.kl t.kc],.int .i64 u])/\Hid (E t u W w'/\(∀q,w.heap.size<=q->q<W.heap.size->w'.heap[q]?=W.heap[q]?)/\W.heap.size<=w'.heap.size/\(w'.cell? ⟨g,0,none⟩=some (.slice N P O)/\w'.cell? ⟨g,2,none⟩=some (.int .i64 S)))))(HB:Hid (∀q t u W,JK E w q t u W->u≠0->R u W))(B:Hid (∀q t W,JK E w q t 0 W->Calls Tryz.prog 35 #[.pointer (some ⟨g,0,none⟩),.string ⟨#[116,97,107,101]⟩,.int .i64 a,.int .i64 0,.agg #[.int .i64 t.y0,.int .i64 t.y1,.string t.y2,.slice t.ya t.yl t.yc]] W λe w'=>e=.returned (.tuple #[])/\Hid (M q t w')))(x:Hid (∀q t W,M q t W->Calls Tryz.prog 36 #[.pointer (some ⟨g,0,none⟩),.slice t.pa t.pl t.pc] W λe w'=>∃v b,e=.returned (.tuple #[v,.bool b])/\Hid (C q t v b w')))(y:Hid (∀q t W,M q t W->W.heap[q]?=some (.cells #[.int .i64 t.y0,.int .i64 t.y1,.string t.y2,.slice t.ya t.yl t.yc,.int .i64 t.f,.slice t.sa t.sl t.sc,.slice t.pa t.pl t.pc,.slice t.ka t.kl t.kc] 96)))(z:Hid (∀q t v b W,C q t v b W->W.heap[q]?=some (.cells #[.int .i64 t.y0,.int .i64 t.y1,.string t.y2,.slice t.ya t.yl t.yc,.int .i64 t.f,.slice t.sa t.sl t.sc,.slice t.pa t.pl t.pc,.slice t.ka t.kl t.kc] 96)))(l:Hid (∀q t v b W,C q t v b W->(t.f=2\/t.f=3)->Calls Tryz.prog 37 #[.pointer (some ⟨g,0,none⟩),.int .i64 a,.int .i64 t.f] W λe w'=>e=.returned (.tuple #[])/\Hid (R 0 w')))(m:Hid (∀q t v W,C q t v false W->¬(t.f=2\/t.f=3)->Calls Tryz.prog 37 #[.pointer (some ⟨g,0,none⟩),.int .i64 a,.int .i64 2] W λe w'=>e=.returned (.tuple #[])/\Hid (R 0 w')))(n:Hid (∀q t v W,C q t v true W->¬(t.f=2\/t.f=3)->Calls Tryz.prog 38 #[.pointer (some ⟨g,0,none⟩),.int .i64 a,.agg #[.int .i64 t.y0,.int .i64 t.y1,.string t.y2,.slice t.ya t.yl t.yc,.int .i64 t.f,.slice t.sa t.sl t.sc,.slice t.pa t.pl t.pc,.slice t.ka t.kl t.kc],v] W λe w'=>e=.returned (.tuple #[])/\Hid (R 0 w'))):Calls Tryz.prog 17 #[.pointer (some ⟨g,0,none⟩),.int .i64 a] w λe w'=>∃v,e=.returned (.int .i64 v)/\Hid (R v w'):=by
 obtain⟨ak,al,am⟩:=ad.out;go_enter Tryz.func17,Tryz.ntmps17;go_upto_region 2 with fail;cases F
 ·have K:=ai (J.out rfl);clear L J HB B x y z l m n;go_wp2_with fail
  go_ret
  exact⟨4,rfl,K.out⟩
 have V:=ai (L.out rfl);clear L J ar am;have H:Hid (Below w.heap.size w w.drew):=(ah _ _).drew;have I:Hid (∀o,Below w.heap.size w (w.drew.alloc o)):=λo=>(ah _ _).drew.alloc (ag _) o;have aT:¬(w.heap.size=g):=by omega
 have aU:¬(g=w.heap.size):=by omega
 go_upto_region 4 with fail;go_cut [7,8] (λau av ax=>∃(q:Nat)(t:T8)(u:Int),au=.pointer (some ⟨q,0,none⟩)/\av=.int .i64 u/\Hid (JK E w q t u ax))
 case first=>
  clear HB B x y z l m n
  go_region_with ((first
   | (go_at_call 34;refine(V.out _ (by first|exact H.out|exact I.out _)).mono ?_;rintro e c ⟨t,u,rfl,p⟩;have aX:g<c.heap.size:=(by have:=p.out.2.2.1;simp at this;omega);have aV:¬(c.heap.size=g):=(by omega);have aW:¬(g=c.heap.size):=(by omega);obtain⟨a0,a1⟩:=p.out.2.2.2;(first|(have d:c.heap[w.heap.size]?=some (.cells #[.int .i64 0,.int .i64 0,.string ⟨#[]⟩,.slice none 0 0,.int .i64 0,.slice none 0 0,.slice none 0 0,.slice none 0 0] 96):=((p.out.2.1 w.heap.size (ag _) (by simp)).trans (ay w.drew _));obtain⟨a2,a3,a4,a5,a6,a7,a8,a9⟩:c.cell? ⟨w.heap.size,0,none⟩=some (.int .i64 0)/\c.cell? ⟨w.heap.size,1,none⟩=some (.int .i64 0)/\c.cell? ⟨w.heap.size,2,none⟩=some (.string ⟨#[]⟩)/\c.cell? ⟨w.heap.size,3,none⟩=some (.slice none 0 0)/\c.cell? ⟨w.heap.size,4,none⟩=some (.int .i64 0)/\c.cell? ⟨w.heap.size,5,none⟩=some (.slice none 0 0)/\c.cell? ⟨w.heap.size,6,none⟩=some (.slice none 0 0)/\c.cell? ⟨w.heap.size,7,none⟩=some (.slice none 0 0):=⟨ab d 0,ab d 1,ab d 2,ab d 3,ab d 4,ab d 5,ab d 6,ab d 7⟩;have aA:c.frozen? ⟨w.heap.size,0,none⟩=false:=(by simp[World.frozen?,d]);have aB:c.frozen? ⟨w.heap.size,1,none⟩=false:=(by simp[World.frozen?,d]);have aD:c.frozen? ⟨w.heap.size,2,none⟩=false:=(by simp[World.frozen?,d]);have aE:c.frozen? ⟨w.heap.size,3,none⟩=false:=(by simp[World.frozen?,d]);have aF:c.frozen? ⟨w.heap.size,4,none⟩=false:=(by simp[World.frozen?,d]);have aG:c.frozen? ⟨w.heap.size,5,none⟩=false:=(by simp[World.frozen?,d]);have aH:c.frozen? ⟨w.heap.size,6,none⟩=false:=(by simp[World.frozen?,d]);have aI:c.frozen? ⟨w.heap.size,7,none⟩=false:=(by simp[World.frozen?,d]);have aj:=ai d;clear d)|skip))))
  all_goals (go_wp2_with fail;go_meet)
  all_goals (refine⟨_,t,u,rfl,rfl,?_⟩)
  all_goals (first
   | exact⟨_,c,H.out,p.out.1,⟨by have:=p.out.2.2.1;simpa using this,af (ag _)⟩,ay _ _,aC ((ah _ _).alloc (ag _) _) _⟩
   | exact⟨_,c,I.out _,p.out.1,⟨ag _,ae (by simp)⟩,Lb aj.out rfl _ _ _ _ _ _ _ _⟩)
 case rest=>
 obtain⟨q,t,u,rfl,rfl,A⟩:=hcut;clear V H I ak al;by_cases Q:u=0;rotate_left
 ·have K:=ai (HB.out _ _ _ _ A.out Q);have aZ:(u==0)=false:=by simpa using Q
  clear A HB B x y z l m n;go_wp2_with fail
  go_ret
  exact⟨u,rfl,K.out⟩
 subst Q;have X:=ai (B.out _ _ _ A.out);obtain⟨_,_,_,_,_,D,_⟩:=A.out;have an:wc.cell? ⟨q,0,none⟩=some (.int .i64 t.y0):=ab D 0;have d1:wc.cell? ⟨q,1,none⟩=some (.int .i64 t.y1):=ab D 1;have ao:wc.cell? ⟨q,2,none⟩=some (.string t.y2):=ab D 2;have ap:wc.cell? ⟨q,3,none⟩=some (.slice t.ya t.yl t.yc):=ab D 3;clear D A HB B;go_wp2_with fail;refine X.out.mono ?_;rintro e aw ⟨rfl,G⟩;have U:=ai (x.out _ _ _ G.out);have aq:aw.cell? ⟨q,6,none⟩=some (.slice t.pa t.pl t.pc):=ab (y.out _ _ _ G.out) 6;clear X x y G an d1 ao ap;go_wp2_with fail;refine U.out.mono ?_;rintro e i ⟨v,b,rfl,j⟩;have h:=ai (z.out _ _ _ _ _ j.out);have az:i.cell? ⟨q,4,none⟩=some (.int .i64 t.f):=ab h.out 4;clear aq U z;by_cases s:t.f=2\/t.f=3
 ·have r:=ai (l.out _ _ _ _ _ j.out s);clear m n l j h;generalize t.f=f at*;rcases s with rfl|rfl
  ·go_wp2_with fail;refine r.out.mono ?_;rintro e T ⟨rfl,k⟩;go_wp2_with fail
   go_ret
   exact⟨0,rfl,k.out⟩
  ·go_wp2_with fail;refine r.out.mono ?_;rintro e T ⟨rfl,k⟩;go_wp2_with fail
   go_ret
   exact⟨0,rfl,k.out⟩
 have aQ:(t.f==2)=false:=by simpa using λe=>s (ae e)
 have aR:(t.f==3)=false:=by simpa using λe=>s (af e)
 cases b
 ·have r:=ai (m.out _ _ _ _ j.out s);clear m n l j h;go_wp2_with fail;refine r.out.mono ?_;rintro e T ⟨rfl,k⟩;go_wp2_with fail
  go_ret
  exact⟨0,rfl,k.out⟩
 ·have r:=ai (n.out _ _ _ _ j.out s);have aJ:i.cell? ⟨q,0,none⟩=some (.int .i64 t.y0):=ab h.out 0;have aK:i.cell? ⟨q,1,none⟩=some (.int .i64 t.y1):=ab h.out 1;have aL:i.cell? ⟨q,2,none⟩=some (.string t.y2):=ab h.out 2;have aM:i.cell? ⟨q,3,none⟩=some (.slice t.ya t.yl t.yc):=ab h.out 3;have aN:i.cell? ⟨q,5,none⟩=some (.slice t.sa t.sl t.sc):=ab h.out 5;have aO:i.cell? ⟨q,6,none⟩=some (.slice t.pa t.pl t.pc):=ab h.out 6;have aP:i.cell? ⟨q,7,none⟩=some (.slice t.ka t.kl t.kc):=ab h.out 7;clear m n l j h;go_wp2_with fail;refine r.out.mono ?_;rintro e T ⟨rfl,k⟩;go_wp2_with fail
  go_ret
  exact⟨0,rfl,k.out⟩
end Go.Proofs.YtmbjgiaebneodaaGreat
