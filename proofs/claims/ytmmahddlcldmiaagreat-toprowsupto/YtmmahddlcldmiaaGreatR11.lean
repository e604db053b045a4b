/- Proved here: plain facts and contracts. No condition but what each names. -/
import Derived.Test.YtmmahddlcldmiaaGreatR10
import Derived.ProofKit
import Derived.OpenShut
import Derived.JoinedCond
import Derived.RangeFuncNested
import Derived.RangeFuncLeaves
import Derived.OwnWalkIn
import Derived.TacticsInMore
import Derived.LoopNIn
import Derived.LoopIn
import Derived.Sort.MapsRangeIn
import Derived.Sort.Grow
namespace Go.Proofs.YtmmahddlcldmiaaGreat
open Go.RowKit Go.Proofs.Tryz
open Go.ChangeShapes Go.WideShapes Go.ChangeAt Go.RowKit
open Go.RowKit Go.Maps
set_option maxRecDepth 100000
set_option maxHeartbeats 2000000
theorem bz.sound{p:lB}{s:Sy}{d:gz}{w:ag}(e:bz p s d w):∀a nm cs c,s.get a=some (nm,cs,c)->(bG 13 cs=0/\aT 13 cs=true)/\∀t∈c,bG 13 t=0/\aT 13 t=true:=λa nm cs c g=>by
 obtain⟨b,k⟩:∃b,df d.l a=some b:=by
  have:=e.alive a;rw[g]at this;exact gm.1 this
 obtain⟨q,i,h,f,j,_⟩:=e.ps a b k;rw[g]at f;obtain⟨rfl,rfl,rfl⟩:nm=q/\cs=i/\c=h:=by simpa using f
 obtain⟨m,n,o,_⟩:=j.ok;exact⟨⟨m,n⟩,o⟩
def Dr(w0:ag)(V:aO)(a:ag)(s:Sy)(i c:Nat)(W:ag):Prop:=∃(p:lB)(d:gz),p.b=c/\bz p s d W/\(p.room=60/\aB (p.n+6) (cg p.n p.prog) 7 (cg 1 fY)=true)/\(d.k<=i*402/\d.es.length<=i*201/\d.wn<=i*201/\d.bn<=i*201)/\(am w0 W/\w0.heap.size<=p.lo)/\(∀q,V q->q<a.heap.size/\d.ow q=0)/\bB (λq=>¬V q) a W
theorem Dr.later{w0:ag}{V:aO}{d:ag}{s:Sy}{i e:Nat}{W c:ag}(h:Dr w0 V d s i e W)(b:am W c):Dr w0 V d s i e c:=by
 obtain⟨o,f,g,j,k,l,a,m,n⟩:=h;exact⟨o,f,g,j.later b,k,l,⟨a.1.trans (b.mono a.1.size),a.2⟩,m,n.trans (aR b _) λ_ _ p=>p⟩
theorem Dr.at{w0:ag}{V:aO}{c:ag}{s:Sy}{i b:Nat}{W:ag}(f:Dr w0 V c s i b W):uQ w0 s i b W:=by
 obtain⟨k,d,e,g,h,j,a,_⟩:=f;exact⟨k,d,e,g,h,j,a.1,a.2⟩
theorem uQ.from{w0:ag}{s:Sy}{i g:Nat}{a W:ag}(l:uQ w0 s i g a)(f:am a W){V:aO}(e:∀q,V q->a.heap.size<=q/\q<W.heap.size):Dr w0 V W s i g W:=by
 obtain⟨p,b,k,c,m,n,d,o⟩:=l;refine⟨p,b,k,c.later f,m,n,⟨d.trans (f.mono d.size),o⟩,λq h=>⟨(e q h).2,?_⟩,bB.refl _ _⟩;by_cases j:b.ow q=0
 ·exact j
 ·have:=(c.low q j).2;have:=(e q h).1;omega
theorem O5{n:Nat}{P:List (Bh (n+1))}(f:aB (n+6) (cg n P) 7 (cg 1 fY)=true)(g:mF n P=0){s:Sy}(i:∀a nm cs d,s.get a=some (nm,cs,d)->(bG 13 cs=0/\aT 13 cs=true)/\∀t∈d,bG 13 t=0/\aT 13 t=true)(h:0<=s.last/\s.last<=90)(e:Int×Int×Int×Tc){m:Nat}{x:Tm m}(b:aB m x 13 e.2.2.2=true\/e.1≠3):s.do n P 60 e.1 e.2.1 e.2.2.1 m x=Ke s e:=by
 rw[FJ f g Kj i h];rcases b with b|b
 ·by_cases c:e.1=3
  ·unfold Ke;rw[c];exact KF b s 60 e.2.1 e.2.2.1
  ·unfold Ke Sy.do;rw[if_neg c,if_neg c]
 ·unfold Ke Sy.do;rw[if_neg b,if_neg b]
theorem sA{p:lB}{s:Sy}{d f:gz}{a c B:Nat}{w w':ag}(b:bz p s d w)(k:gB a c d f w w')(h:B<=p.lo):Below B w w':=by
 refine⟨k.1.os,k.1.tape,k.1.output,k.1.size,λe i=>k.1.block e ?_ λg=>?_⟩
 ·have:=b.lo.1;omega
 ·have:=(b.low e g).1;omega
theorem N0{w0:ag}{V:aO}{g:ag}{s:Sy}{i l:Nat}{W:ag}(y:Dr w0 V g s i l W)(I:i<=100)(e:Int×Int×Int×Tc)(A:I2 (e.2.1,e.2.2.1)){m:Nat}(x:Tm (m+1))(E:In g.heap.size g (m+1) x/\cv V (m+1) x)(z:(aC (m+1) x).length<=2097152)(C:aB (m+1) x 13 e.2.2.2=true\/e.1≠3):ao 8 #[aH l,.agg #[ab e.1,ab e.2.1,ab e.2.2.1,ab x.1.1,ab x.1.2.1,af x.1.2.2,ae x.2.1.1 x.2.2.length x.2.1.2]] W λr w'=>r=.returned (ab (Ke s e).2)/\Hid (Dr w0 V g (Ke s e).1 (i+1) l w'):=by
 obtain⟨F,G,rfl,d,⟨o,p⟩,J,j,f,k⟩:=y;have q:=eE k (D:=V) (λb a n=>n a) E;have B:=O5 p d.pg.2.2.2.1 d.sound ⟨d.keys.2.2.2.1,d.keys.2.2.2.2.1⟩ e C;refine(d.do A x ⟨q.1,q.2.mono λc a=>?_⟩ z (by omega) (by omega) (by omega) (by omega)).mono ?_
 ·have:=(f c a).2;omega
 ·rintro r w' ⟨O,rfl,v⟩;obtain⟨t,w,u,h⟩:=v;rw[o,B]at t u;have H:=k.size;refine⟨by rw[t],F,w,rfl,u,⟨o,p⟩,?_,⟨j.1.trans (sA d h j.2),j.2⟩,λc a=>⟨(f c a).1,?_⟩,k.trans h.1 λc _ a n=>?_⟩
  ·obtain⟨_,_,K,L,M,N⟩:=h;omega
  ·rw[h.2.1 c (by have:=(f c a).1;omega)];exact(f c a).2
  ·exact a (f c n).2
def wt:(n:Nat)->Tm n->Nat
 | 0,_=>1
 | n+1,x=>1+x.1.2.2.size+(x.2.2.map λy=>wt n y).sum
theorem rW:(n:Nat)->(x:Tm n)->(aC n x).length<=wt n x
 | 0,_=>by simp[aC,wt]
 | n+1,x=>by
  have key:∀l:List (Tm n),(l.flatMap λy=>aC n y).length<=(l.map λy=>wt n y).sum:=by
   intro l
   induction l with
   | nil=>simp
   | cons y l ih=>
    have:=rW n y;simp only[bM,bt,aV,bO];omega
  have:=key x.2.2;simp only[aC,wt,bu];omega
theorem own:ownKnob Tryz.prog.godebug=none:=by kernel_rfl
theorem uD:laidOutB Tryz.prog=true:=by kernel_rfl
theorem kH:Tryz.prog.cellsOf 31=4:=by kernel_rfl
theorem vg:Tryz.prog.cellsOf 3=1:=by kernel_rfl
theorem lZ:Tryz.prog.cellsOf 9=1:=by kernel_rfl
theorem DF:Tryz.prog.cellsOf 29=1:=by kernel_rfl
theorem zZ{f:Type}{P:Nat->f->Prop}:(len:Nat)->(∀i,i<len->∃y,P i y)->∃l:List f,l.length=len/\∀i y,l[i]?=some y->P i y
 | 0,_=>⟨[],rfl,λi y b=>by simp at b⟩
 | len+1,b=>by
  obtain⟨l,j,k⟩:=zZ len (λi d=>b i (by omega));obtain⟨e,m⟩:=b len (by omega);refine⟨l++ [e],by simp[j],λi y a=>?_⟩;by_cases d:i<l.length
  ·rw[dw d]at a;exact k i y a
  ·rw[dM (by omega)]at a;have c:i-l.length=0:=by
    by_cases c:i-l.length=0
    ·exact c
    ·rw[eT (by simp;omega)]at a;cases a
   rw[c]at a;have g:e=y:=by simpa using a
   have h:i=len:=by omega
   rw[h,<-g];exact m
theorem OA{H:Type}{n:Nat}:(p:List (Tm n))->(es:List (DataW H))->(∀(i:Nat)(y:Tm n)(e:DataW H),p[i]?=some y->es[i]?=some e->wt n y<=Rows.uptoBulk e)->p.length=es.length->(p.map λy=>wt n y).sum<=Rows.uptoBulkAll es
 | [],es,_,h=>by simp
 | y::p,[],_,h=>by simp at h
 | y::p,e::es,hp,h=>by
  have f:=hp 0 y e (by simp) (by simp);have g:=OA p es (λi d a c b=>hp (i+1) d a (by simpa using c) (by simpa using b)) (by simpa using h);simp only[aV,bO,Rows.uptoBulkAll];omega
theorem Fv(b o i j:Nat):((⟨b,o,none⟩:Addr).add i).add j=⟨b,o+i+j,none⟩:=by
 unfold Addr.add;split<;>split<;>simp_all
theorem yN{w:ag}{a:Addr}{v:ar}(c:w.cell? ((a.add 0).add 0)=some v):a=⟨a.block,a.off,none⟩:=by
 have d:(a.add 0).add 0=a:=rfl;rw[d]at c;unfold World.cell? at c;split at c
 ·split at c
  ·cases c
  ·rename_i e;cases a with
   | mk b o f=>cases f with
    | none=>rfl
    | some g=>simp at e
 ·cases c
theorem AQ{k:Int}(a:(Lit.int .i64 k).wf=true):dI k:=by
 have: -9223372036854775808<=k/\k<=9223372036854775807:=by simpa [Lit.wf,IntKind.min,IntKind.max,IntKind.signed,IntKind.bits]using a
 exact this
theorem N2{H:Type}(enc:TypeId×ar->H)(w:ag)(p:Nat->Bool):(n f:Nat)->f<=2*n+1->(cs:List ar)->(x:DataW H×List MemPlace)-> DataW.trod enc Tryz.prog w 0 p true f 31 cs=some x-> ∃t:Tm (n+1),cs=[ab t.1.1,ab t.1.2.1,af t.1.2.2,ae t.2.1.1 t.2.2.length t.2.1.2]/\In w.heap.size w (n+1) t/\wt (n+1) t<=Rows.uptoBulk x.1:=by
 intro n
 induction n with
 | zero=>
  intro f aq cs x l;obtain⟨h,m,rfl,rfl,I,K,q⟩:=jx underlying31 l;have u:DataW.trod enc Tryz.prog w 0 p true m 3 ((cs.drop 0).take (Tryz.prog.cellsOf 3))=h[0]? :=q 0 _ rfl;obtain rfl:m=0:=by omega
  have aJ:h.length=4:=K;rw[aN (by omega)]at u;cases u
 | succ n ih=>
  intro f aq cs x l;obtain⟨h,m,rfl,rfl,I,K,q⟩:=jx underlying31 l;have u:DataW.trod enc Tryz.prog w 0 p true m 3 ((cs.drop 0).take (Tryz.prog.cellsOf 3))=h[0]? :=q 0 _ rfl;have R:DataW.trod enc Tryz.prog w 0 p true m 3 ((cs.drop 1).take (Tryz.prog.cellsOf 3))=h[1]? :=q 1 _ rfl;have S:DataW.trod enc Tryz.prog w 0 p true m 9 ((cs.drop 2).take (Tryz.prog.cellsOf 9))=h[2]? :=q 2 _ rfl;have T:DataW.trod enc Tryz.prog w 0 p true m 29 ((cs.drop 3).take (Tryz.prog.cellsOf 29))=h[3]? :=q 3 _ rfl;rw[vg]at u R;rw[lZ]at S;rw[DF]at T;rw[kH]at I;obtain⟨d,i,j,e,rfl⟩:∃d i j e,cs=[d,i,j,e]:=by
   match cs,I with
   | [d,i,j,e],_=>exact⟨d,i,j,e,rfl⟩
  obtain⟨y0,y1,y2,y,rfl⟩:∃y0 y1 y2 y,h=[y0,y1,y2,y]:=by
   match h,K with
   | [y0,y1,y2,y],_=>exact⟨y0,y1,y2,y,rfl⟩
  obtain⟨k,O,aA,Y⟩:=jw underlying3 (x:=y0) (by simpa using u);obtain⟨X,P,aB,Z⟩:=jw underlying3 (x:=y1) (by simpa using R);obtain⟨r,Q,aC,aa⟩:=pH underlying9 (x:=y2) (by simpa using S);have ai:DataW.trod enc Tryz.prog w 0 p true m 29 [e]=some y:=by simpa using T
  simp at O P Q;subst O P Q aA aB aC;rcases DataW.trod_slice underlying29 ai with⟨s,rfl⟩|⟨a,len,cap,D,aL,az,rfl,s,rfl,_,aF,an,aE,E,_,_⟩
  ·simp at s;subst s;refine⟨((k,X,r),(none,0),[]),rfl,⟨⟨AQ Y,AQ Z,aa,av _,aM _⟩,aj rfl⟩,?_⟩;have es:r.data.toList.length=r.size:=by rw[iM];rfl
   simp only[wt,Rows.uptoBulk,Rows.uptoBulkAll,aV,cC,ir];omega
  ·simp at s;subst s;simp only[kH]at E;have key:∀c,c<len->∃t:Tm (n+1),(∃b o,a=⟨b,o,none⟩/\b<w.heap.size/\dC w b (o+c*4) (n+1) t)/\In w.heap.size w (n+1) t/\∀g,(D.map (·.1))[c]?=some g->wt (n+1) t<=Rows.uptoBulk g:=by
    intro c aw;have V:=E c aw;have W:=E 0 (by omega);rw[aN (by omega)]at V W;obtain⟨ad,ao,ay⟩:=bF.1 V;obtain⟨ah,ap,aI⟩:=bF.1 W;obtain⟨_,aG,z⟩:=pR ao;obtain⟨_,aH,am⟩:=pR ap;obtain⟨t,rfl,G,F⟩:=ih az (by omega) ad _ ay;have U:=yN (w:=w) (a:=a) (v:=ah[0]'(by omega)) (by have:=am 0 (by omega);rw[aN (by omega)]at this;simpa using this);have al:∀C,(a.add (c*4)).add C=⟨a.block,a.off+c*4+C,none⟩:=λC=>by
     have:=Fv a.block a.off (c*4) C;rw[<-U]at this;exact this
    have d:=z 0 (by omega);have i:=z 1 (by omega);have j:=z 2 (by omega);have e:=z 3 (by omega);rw[al]at d i j e;simp at d i j e;refine⟨t,⟨a.block,a.off,U,iw w ⟨a.block,a.off+c*4,none⟩ d,d,i,j,e⟩,G,λg A=>?_⟩;rw[dh,aN (by omega)]at A;have:(D[c]).1=g:=by simpa using A
    rw[<-this];exact F
   obtain⟨M,B,J⟩:=zZ len key;refine⟨((k,X,r),(some a,cap),M),by simp[B],⟨⟨AQ Y,AQ Z,aa,by simp only;omega,an⟩,?_⟩,?_⟩
   ·rcases Nat.eq_zero_or_pos len with l|l
    ·exact aj (bI (B.trans l))
    ·obtain⟨⟨b,o,rfl,F,_⟩,_,_⟩:=J 0 (M[0]'(by rw[B];exact l)) (aN (by rw[B];exact l));refine ak ⟨b,o,rfl,F,λc N L=>?_⟩;obtain⟨⟨aD,aK,g,_,au⟩,G,_⟩:=J c N L;simp at g;obtain⟨rfl,rfl⟩:=g;exact⟨au,G⟩
   ·have ax:=OA M (D.map (·.1)) (λc N g L A=>(J c N L).2.2 g A) (by simp;omega);have es:r.data.toList.length=r.size:=by rw[iM];rfl
    simp only[wt,Rows.uptoBulk,Rows.uptoBulkAll,aV,cC]at ax ⊢;omega
def Oy(n:Nat)(a:Ac n):Nat:=wt n a.2.1.1+wt n a.2.1.2+a.2.2.1.size+1
def Oz(n:Nat)(c:Cl n):Nat:=wt n c.1.1+wt n c.1.2.1+wt n c.1.2.2+(c.2.2.map (Oy n)).sum+1
def My(n:Nat)(b:Bh n):Nat:=b.1.size+(b.2.2.map (Oz n)).sum+1
theorem Bc:Tryz.prog.cellsOf 248=11:=by kernel_rfl
theorem tB:Tryz.prog.cellsOf 162=13:=by kernel_rfl
theorem Be:Tryz.prog.cellsOf 151=2:=by kernel_rfl
theorem GN:Tryz.prog.cellsOf 160=1:=by kernel_rfl
theorem zw:Tryz.prog.cellsOf 149=1:=by kernel_rfl
theorem Ga{a H:Type}(g:a->Nat):(p:List a)->(es:List (DataW H))->(∀(i:Nat)(y:a)(e:DataW H),p[i]?=some y->es[i]?=some e->g y<=Rows.uptoBulk e)->p.length=es.length->(p.map g).sum<=Rows.uptoBulkAll es
 | [],es,_,h=>by simp
 | y::p,[],_,h=>by simp at h
 | y::p,e::es,hp,h=>by
  have j:=hp 0 y e (by simp) (by simp);have k:=Ga g p es (λi f b d c=>hp (i+1) f b (by simpa using d) (by simpa using c)) (by simpa using h);simp only[aV,bO,Rows.uptoBulkAll];omega
theorem wF{H q:Type}(enc:TypeId×ar->H)(w:ag)(L:Nat->Bool)(k:Nat)(f:q->List ar)(r:q->Prop)(g:q->Nat)(T S:TypeId)(P:Tryz.prog.underlying S=some (.slice T))(ab:Tryz.prog.cellsOf T=k)(ao:0<k)(K:∀y,(f y).length=k)(D:Nat)(O:∀(m:Nat)(cs:List ar)(x:DataW H×List MemPlace),m<=D->DataW.trod enc Tryz.prog w 0 L true m T cs=some x->∃y,cs=f y/\r y/\g y<=Rows.uptoBulk x.1)(m:Nat)(aw:m<=D)(v:ar)(x:DataW H×List MemPlace)(j:DataW.trod enc Tryz.prog w 0 L true m S [v]=some x):∃a l c,v=ae a l.length c/\l.length<=c/\c<=maxLen/\qv w.heap.size w k f r a l/\(l.map g).sum+1<=Rows.uptoBulk x.1:=by
 rcases DataW.trod_slice P j with⟨d,rfl⟩|⟨a,len,cap,s,aA,ai,rfl,d,rfl,_,au,V,an,t,_,_⟩
 ·simp at d;subst d;exact⟨none,[],0,rfl,av _,aM _,aj rfl,by simp[Rows.uptoBulk]⟩
 ·simp at d;subst d;simp only[ab]at t;have key:∀e,e<len->∃y:q,(∃b o,a=⟨b,o,none⟩/\b<w.heap.size/\∀(h:Nat)(i:ar),(f y)[h]?=some i->ah w b (o+e*k+h) i)/\r y/\∀d,(s.map (·.1))[e]?=some d->g y<=Rows.uptoBulk d:=by
   intro e Z;have G:=t e Z;have I:=t 0 (by omega);rw[aN (by omega)]at G I;obtain⟨M,W,ad⟩:=bF.1 G;obtain⟨N,X,ay⟩:=bF.1 I;obtain⟨_,ap,R⟩:=pR W;obtain⟨_,aq,U⟩:=pR X;obtain⟨y,rfl,z,u⟩:=O ai M _ (by omega) ad;have E:=yN (w:=w) (a:=a) (v:=N[0]'(by omega)) (by have:=U 0 (by omega);rw[aN (by omega)]at this;simpa using this);have Q:∀h,(a.add (e*k)).add h=⟨a.block,a.off+e*k+h,none⟩:=λh=>by
    have:=Fv a.block a.off (e*k) h;rw[<-E]at this;exact this
   have F:∀(h:Nat)(i:ar),(f y)[h]?=some i->ah w a.block (a.off+e*k+h) i:=λh i J=>by
    have aa:=(aY.1 J).1;have:=R h (by rw[K]at aa;omega);rw[Q,J]at this;exact this
   obtain⟨al,af⟩:∃i,(f y)[0]?=some i:=⟨(f y)[0]'(by rw[K];omega),aN _⟩;refine⟨y,⟨a.block,a.off,E,iw w ⟨a.block,a.off+e*k+0,none⟩ (F 0 al af),F⟩,z,λd n=>?_⟩;rw[dh,aN (by omega)]at n;have:(s[e]).1=d:=by simpa using n
   rw[<-this];exact u
  obtain⟨C,p,A⟩:=zZ len key;refine⟨some a,C,cap,by rw[p],by omega,V,?_,?_⟩
  ·rcases Nat.eq_zero_or_pos len with j|j
   ·exact aj (bI (p.trans j))
   ·obtain⟨⟨b,o,rfl,u,_⟩,_,_⟩:=A 0 (C[0]'(by rw[p];exact j)) (aN (by rw[p];exact j));refine ak ⟨b,o,rfl,u,λe y B=>?_⟩;obtain⟨⟨am,az,d,_,Y⟩,z,_⟩:=A e y B;simp at d;obtain⟨rfl,rfl⟩:=d;exact⟨Y,z⟩
  ·have ax:=Ga g C (s.map (·.1)) (λe y d B n=>(A e y B).2.2 d n) (by simp;omega);simp only[Rows.uptoBulk];omega
theorem nX{H:Type}(enc:TypeId×ar->H)(w:ag)(a:Nat->Bool)(n m:Nat)(f:m<=n)(cs:List ar)(x:DataW H×List MemPlace)(b:DataW.trod enc Tryz.prog w 0 a true m 31 cs=some x):∃t:Tm (n+1),cs=iL (n+1) t/\In w.heap.size w (n+1) t/\wt (n+1) t<=Rows.uptoBulk x.1:=by
 obtain⟨t,c,d,e⟩:=N2 enc w a n m (by omega) cs x b;exact⟨t,c,d,e⟩
theorem OW{H:Type}(enc:TypeId×ar->H)(w:ag)(b:Nat->Bool)(n m:Nat)(Y:m<=n)(cs:List ar)(x:DataW H×List MemPlace)(M:DataW.trod enc Tryz.prog w 0 b true m 248 cs=some x):∃a:Ac (n+1),cs=gC (n+1) a/\iY (n+1) w.heap.size w a/\Oy (n+1) a<=Rows.uptoBulk x.1:=by
 obtain⟨c,m,rfl,rfl,G,N,o⟩:=jx underlying248 M;have B:DataW.trod enc Tryz.prog w 0 b true m 3 ((cs.drop 0).take (Tryz.prog.cellsOf 3))=c[0]? :=o 0 _ rfl;have C:DataW.trod enc Tryz.prog w 0 b true m 31 ((cs.drop 1).take (Tryz.prog.cellsOf 31))=c[1]? :=o 1 _ rfl;have D:DataW.trod enc Tryz.prog w 0 b true m 31 ((cs.drop 5).take (Tryz.prog.cellsOf 31))=c[2]? :=o 2 _ rfl;have E:DataW.trod enc Tryz.prog w 0 b true m 9 ((cs.drop 9).take (Tryz.prog.cellsOf 9))=c[3]? :=o 3 _ rfl;have F:DataW.trod enc Tryz.prog w 0 b true m 3 ((cs.drop 10).take (Tryz.prog.cellsOf 3))=c[4]? :=o 4 _ rfl;rw[vg]at B F;rw[kH]at C D;rw[lZ]at E;rw[Bc]at G;obtain⟨r,d,e,f,g,h,i,j,l,u,s,rfl⟩:∃r d e f g h i j l u s,cs=[r,d,e,f,g,h,i,j,l,u,s]:=by
  match cs,G with
  | [r,d,e,f,g,h,i,j,l,u,s],_=>exact⟨r,d,e,f,g,h,i,j,l,u,s,rfl⟩
 obtain⟨y0,y1,y2,p,q,rfl⟩:∃y0 y1 y2 p q,c=[y0,y1,y2,p,q]:=by
  match c,N with
  | [y0,y1,y2,p,q],_=>exact⟨y0,y1,y2,p,q,rfl⟩
 obtain⟨k,y,T,Q⟩:=jw underlying3 (x:=y0) (by simpa using B);obtain⟨J,A,V,S⟩:=jw underlying3 (x:=q) (by simpa using F);obtain⟨v,z,U,R⟩:=pH underlying9 (x:=p) (by simpa using E);obtain⟨t,K,O,W⟩:=nX enc w b n m (by omega) [d,e,f,g] y1 (by simpa using C);obtain⟨I,L,P,X⟩:=nX enc w b n m (by omega) [h,i,j,l] y2 (by simpa using D);simp at y z A;subst y z A T U V;refine⟨(k,(t,I),(v,J)),?_,⟨AQ Q,O,P,R,AQ S⟩,?_⟩
 ·show _=ab k::(iL (n+1) t++iL (n+1) I++ [af v,ab J]);rw[<-K,<-L];rfl
 ·have es:v.data.toList.length=v.size:=by rw[iM];rfl
  simp only[Oy,Rows.uptoBulk,Rows.uptoBulkAll,aV,cC];omega
theorem GQ{H:Type}(enc:TypeId×ar->H)(w:ag)(b:Nat->Bool)(n m:Nat)(F:m<=n)(cs:List ar)(x:DataW H×List MemPlace)(z:DataW.trod enc Tryz.prog w 0 b true m 162 cs=some x):∃a:Cl (n+1),cs=fq (n+1) a/\iz (n+1) w.heap.size w a/\Oz (n+1) a<=Rows.uptoBulk x.1:=by
 obtain⟨d,m,rfl,rfl,E,Q,y⟩:=jx underlying162 z;have A:DataW.trod enc Tryz.prog w 0 b true m 31 ((cs.drop 0).take (Tryz.prog.cellsOf 31))=d[0]? :=y 0 _ rfl;have B:DataW.trod enc Tryz.prog w 0 b true m 31 ((cs.drop 4).take (Tryz.prog.cellsOf 31))=d[1]? :=y 1 _ rfl;have C:DataW.trod enc Tryz.prog w 0 b true m 160 ((cs.drop 8).take (Tryz.prog.cellsOf 160))=d[2]? :=y 2 _ rfl;have D:DataW.trod enc Tryz.prog w 0 b true m 31 ((cs.drop 9).take (Tryz.prog.cellsOf 31))=d[3]? :=y 3 _ rfl;rw[kH]at A B D;rw[GN]at C;rw[tB]at E;obtain⟨e,f,j,k,o,p,q,r,s,u,g,h,i,rfl⟩:∃e f j k o p q r s u g h i,cs=[e,f,j,k,o,p,q,r,s,u,g,h,i]:=by
  match cs,E with
  | [e,f,j,k,o,p,q,r,s,u,g,h,i],_=>exact⟨e,f,j,k,o,p,q,r,s,u,g,h,i,rfl⟩
 obtain⟨y0,y1,y2,v,rfl⟩:∃y0 y1 y2 v,d=[y0,y1,y2,v]:=by
  match d,Q with
  | [y0,y1,y2,v],_=>exact⟨y0,y1,y2,v,rfl⟩
 obtain⟨t,J,R,U⟩:=nX enc w b n m (by omega) [e,f,j,k] y0 (by simpa using A);obtain⟨G,K,S,V⟩:=nX enc w b n m (by omega) [o,p,q,r] y1 (by simpa using B);obtain⟨I,M,T,W⟩:=nX enc w b n m (by omega) [u,g,h,i] v (by simpa using D);obtain⟨a,l,c,L,O,N,P,X⟩:=wF enc w b 11 (gC (n+1)) (iY (n+1) w.heap.size w) (Oy (n+1)) 248 160 underlying160 Bc (by omega) (λ_=>rfl) n (λm cs x F z=>OW enc w b n m F cs x z) m (by omega) s y2 (by simpa using C);subst L;refine⟨((t,G,I),(a,c),l),?_,⟨⟨R,S,T⟩,⟨O,N⟩,P⟩,?_⟩
 ·show _=iL (n+1) t++iL (n+1) G++(ae a l.length c::iL (n+1) I);rw[<-J,<-K,<-M];rfl
 ·simp only[Oz,Rows.uptoBulk,Rows.uptoBulkAll,aV,cC];omega
theorem O0{H:Type}(enc:TypeId×ar->H)(w:ag)(d:Nat->Bool)(n m:Nat)(q:m<=n)(cs:List ar)(x:DataW H×List MemPlace)(g:DataW.trod enc Tryz.prog w 0 d true m 151 cs=some x):∃a:Bh (n+1),cs=pW (n+1) a/\pU (n+1) w.heap.size w a/\My (n+1) a<=Rows.uptoBulk x.1:=by
 obtain⟨f,m,rfl,rfl,p,v,o⟩:=jx underlying151 g;have j:DataW.trod enc Tryz.prog w 0 d true m 9 ((cs.drop 0).take (Tryz.prog.cellsOf 9))=f[0]? :=o 0 _ rfl;have k:DataW.trod enc Tryz.prog w 0 d true m 149 ((cs.drop 1).take (Tryz.prog.cellsOf 149))=f[1]? :=o 1 _ rfl;rw[lZ]at j;rw[zw]at k;rw[Be]at p;obtain⟨e,b,rfl⟩:∃e b,cs=[e,b]:=by
  match cs,p with
  | [e,b],_=>exact⟨e,b,rfl⟩
 obtain⟨y0,y1,rfl⟩:∃y0 y1,f=[y0,y1]:=by
  match f,v with
  | [y0,y1],_=>exact⟨y0,y1,rfl⟩
 obtain⟨h,i,z,y⟩:=pH underlying9 (x:=y0) (by simpa using j);obtain⟨a,l,c,r,t,s,u,A⟩:=wF enc w d 13 (fq (n+1)) (iz (n+1) w.heap.size w) (Oz (n+1)) 162 149 underlying149 tB (by omega) (λ_=>rfl) n (λm cs x q g=>GQ enc w d n m q cs x g) m (by omega) b y1 (by simpa using k);simp at i;subst i z r;refine⟨(h,(a,c),l),rfl,⟨y,⟨t,s⟩,u⟩,?_⟩;have es:h.data.toList.length=h.size:=by rw[iM];rfl
 simp only[My,Rows.uptoBulk,Rows.uptoBulkAll,aV,cC];omega
theorem Ir{H:Type}{enc:TypeId×ar->H}{W:ag}{r:Reach}{g:Nat}{v:ar}{d:DataW H}{p:List MemPlace}(u:Value.okWide Tryz.prog W r g 22 v)(b:DataW.Trod enc Tryz.prog W 0 (λ_=>true) true 22 v d p):∃n,∃l:List (Bh (n+1)),∃a c,v=ae a l.length c/\l.length<=c/\c<=maxLen/\gG (n+1) W.heap.size W a l/\(l.map (My (n+1))).sum<=Rows.uptoBulk d:=by
 obtain⟨a,len,cap,rfl⟩:=okWide_slice underlying22 u;obtain⟨f,q⟩:=b;have s:DataW.trod enc Tryz.prog W 0 (λ_=>true) true f 22 [ae a len cap]=some (d,p):=q;obtain⟨e,l,c,i,j,k,m,o⟩:=wF enc W (λ_=>true) 2 (pW (f+1)) (pU (f+1) W.heap.size W) (My (f+1)) 151 22 underlying22 Be (by omega) (λ_=>rfl) f (λw h x t b=>O0 enc W _ f w t h x b) f (av _) _ _ s;exact⟨f,l,e,c,i,j,k,m,by simp only at o;omega⟩
abbrev Sk(n:Nat):Type:=ap×Tm (n+1)
def Qd(n:Nat)(c:Sk n):List ar:=af c.1::iL (n+1) c.2
def Od(n:Nat)(c:Sk n):Nat:=wt (n+1) c.2+1
def JI(n:Nat)(B:Nat)(w:ag)(c:Sk n):Prop:=c.1.size<=maxLen/\In B w (n+1) c.2
abbrev Hn(n:Nat):Type:=(Int×Int×Int)×Tm (n+1)
def Qp(n:Nat)(c:Hn n):List ar:=ab c.1.1::ab c.1.2.1::ab c.1.2.2::iL (n+1) c.2
def Oc(n:Nat)(c:Hn n):Nat:=wt (n+1) c.2+1
def Gt(n:Nat)(B:Nat)(w:ag)(c:Hn n):Prop:=(dI c.1.1/\dI c.1.2.1/\dI c.1.2.2)/\In B w (n+1) c.2
theorem vh:Tryz.prog.cellsOf 64=5:=by kernel_rfl
theorem rE:Tryz.prog.cellsOf 33=7:=by kernel_rfl
theorem LO{H:Type}(enc:TypeId×ar->H)(w:ag)(g:Nat->Bool)(n m:Nat)(A:m<=n)(cs:List ar)(x:DataW H×List MemPlace)(r:DataW.trod enc Tryz.prog w 0 g true m 64 cs=some x):∃a:Sk n,cs=Qd n a/\JI n w.heap.size w a/\Od n a<=Rows.uptoBulk x.1:=by
 obtain⟨h,m,rfl,rfl,o,s,l⟩:=jx underlying64 r;have j:DataW.trod enc Tryz.prog w 0 g true m 9 ((cs.drop 0).take (Tryz.prog.cellsOf 9))=h[0]? :=l 0 _ rfl;have k:DataW.trod enc Tryz.prog w 0 g true m 31 ((cs.drop 1).take (Tryz.prog.cellsOf 31))=h[1]? :=l 1 _ rfl;rw[lZ]at j;rw[kH]at k;rw[vh]at o;obtain⟨f,b,c,d,e,rfl⟩:∃f b c d e,cs=[f,b,c,d,e]:=by
  match cs,o with
  | [f,b,c,d,e],_=>exact⟨f,b,c,d,e,rfl⟩
 obtain⟨y0,y1,rfl⟩:∃y0 y1,h=[y0,y1]:=by
  match h,s with
  | [y0,y1],_=>exact⟨y0,y1,rfl⟩
 obtain⟨p,i,y,v⟩:=pH underlying9 (x:=y0) (by simpa using j);obtain⟨t,q,u,z⟩:=nX enc w g n m (by omega) [b,c,d,e] y1 (by simpa using k);simp at i;subst i y;refine⟨(p,t),?_,⟨v,u⟩,?_⟩
 ·show _=af p::iL (n+1) t;rw[<-q]
 ·simp only[Od,Rows.uptoBulk,Rows.uptoBulkAll,aV,cC];omega
theorem DY{H:Type}(enc:TypeId×ar->H)(w:ag)(c:Nat->Bool)(n m:Nat)(N:m<=n)(cs:List ar)(x:DataW H×List MemPlace)(C:DataW.trod enc Tryz.prog w 0 c true m 33 cs=some x):∃a:Hn n,cs=Qp n a/\Gt n w.heap.size w a/\Oc n a<=Rows.uptoBulk x.1:=by
 obtain⟨d,m,rfl,rfl,A,D,p⟩:=jx underlying33 C;have u:DataW.trod enc Tryz.prog w 0 c true m 3 ((cs.drop 0).take (Tryz.prog.cellsOf 3))=d[0]? :=p 0 _ rfl;have v:DataW.trod enc Tryz.prog w 0 c true m 3 ((cs.drop 1).take (Tryz.prog.cellsOf 3))=d[1]? :=p 1 _ rfl;have y:DataW.trod enc Tryz.prog w 0 c true m 3 ((cs.drop 2).take (Tryz.prog.cellsOf 3))=d[2]? :=p 2 _ rfl;have z:DataW.trod enc Tryz.prog w 0 c true m 31 ((cs.drop 3).take (Tryz.prog.cellsOf 31))=d[3]? :=p 3 _ rfl;rw[vg]at u v y;rw[kH]at z;rw[rE]at A;obtain⟨j,l,o,e,f,g,h,rfl⟩:∃j l o e f g h,cs=[j,l,o,e,f,g,h]:=by
  match cs,A with
  | [j,l,o,e,f,g,h],_=>exact⟨j,l,o,e,f,g,h,rfl⟩
 obtain⟨y0,y1,y2,i,rfl⟩:∃y0 y1 y2 i,d=[y0,y1,y2,i]:=by
  match d,D with
  | [y0,y1,y2,i],_=>exact⟨y0,y1,y2,i,rfl⟩
 obtain⟨k,q,J,F⟩:=jw underlying3 (x:=y0) (by simpa using u);obtain⟨a,r,K,G⟩:=jw underlying3 (x:=y1) (by simpa using v);obtain⟨b,s,L,I⟩:=jw underlying3 (x:=y2) (by simpa using y);obtain⟨t,B,E,M⟩:=nX enc w c n m (by omega) [e,f,g,h] i (by simpa using z);simp at q r s;subst q r s J K L;refine⟨((k,a,b),t),?_,⟨⟨AQ F,AQ G,AQ I⟩,E⟩,?_⟩
 ·show _=ab k::ab a::ab b::iL (n+1) t;rw[<-B]
 ·simp only[Oc,Rows.uptoBulk,Rows.uptoBulkAll,aV,cC];omega
theorem Cj{H:Type}{enc:TypeId×ar->H}{W:ag}{r:Reach}{g:Nat}{v:ar}{d:DataW H}{p:List MemPlace}(u:Value.okWide Tryz.prog W r g 23 v)(b:DataW.Trod enc Tryz.prog W 0 (λ_=>true) true 23 v d p):∃n,∃l:List (Sk n),∃a c,v=ae a l.length c/\l.length<=c/\c<=maxLen/\qv W.heap.size W 5 (Qd n) (JI n W.heap.size W) a l/\(l.map (Od n)).sum<=Rows.uptoBulk d:=by
 obtain⟨a,len,cap,rfl⟩:=okWide_slice underlying23 u;obtain⟨f,q⟩:=b;have s:DataW.trod enc Tryz.prog W 0 (λ_=>true) true f 23 [ae a len cap]=some (d,p):=q;obtain⟨e,l,c,i,j,k,m,o⟩:=wF enc W (λ_=>true) 5 (Qd f) (JI f W.heap.size W) (Od f) 64 23 underlying23 vh (by omega) (λ_=>rfl) f (λw h x t b=>LO enc W _ f w t h x b) f (av _) _ _ s;exact⟨f,l,e,c,i,j,k,m,by simp only at o;omega⟩
theorem Ai{H:Type}{enc:TypeId×ar->H}{W:ag}{r:Reach}{g:Nat}{v:ar}{d:DataW H}{p:List MemPlace}(u:Value.okWide Tryz.prog W r g 24 v)(b:DataW.Trod enc Tryz.prog W 0 (λ_=>true) true 24 v d p):∃n,∃l:List (Hn n),∃a c,v=ae a l.length c/\l.length<=c/\c<=maxLen/\qv W.heap.size W 7 (Qp n) (Gt n W.heap.size W) a l/\(l.map (Oc n)).sum<=Rows.uptoBulk d:=by
 obtain⟨a,len,cap,rfl⟩:=okWide_slice underlying24 u;obtain⟨f,q⟩:=b;have s:DataW.trod enc Tryz.prog W 0 (λ_=>true) true f 24 [ae a len cap]=some (d,p):=q;obtain⟨e,l,c,i,j,k,m,o⟩:=wF enc W (λ_=>true) 7 (Qp f) (Gt f W.heap.size W) (Oc f) 33 24 underlying24 rE (by omega) (λ_=>rfl) f (λw h x t b=>DY enc W _ f w t h x b) f (av _) _ _ s;exact⟨f,l,e,c,i,j,k,m,by simp only at o;omega⟩
theorem Cn{b:Type}(f:b->Nat)(l:List b)(y:b)(a:y∈l):f y<=(l.map f).sum:=by
 induction l with
 | nil=>cases a
 | cons c l ih=>
  simp only[aV,bO];rcases cU.1 a with rfl|a
  ·omega
  ·have:=ih a;omega
theorem wj{b:Type}(f:b->Nat)(a:∀y,1<=f y):(l:List b)->l.length<=(l.map f).sum
 | []=>aM _
 | y::l=>by
  have:=wj f a l;have:=a y;simp only[aV,bO,bu];omega
theorem KI{d:Type}{B k:Nat}{f:d->List ar}{e:d->Prop}{a:au}{l:List d}{w:ag}(b:qv B w k f e a l){j:Nat}{y:d}(c:l[j]?=some y):∃g o,a=some ⟨g,o,none⟩/\g<B/\(∀(t:Nat)(h:ar),(f y)[t]?=some h->ah w g (o+j*k+t) h)/\e y:=by
 rcases b with b|⟨g,o,i,m,b⟩
 ·rw[b]at c;simp at c
 ·exact⟨g,o,i,m,(b j y c).1,(b j y c).2⟩
theorem Kz{a:Type}(l:List a)(d:a):∃b:Nat->a,∀j,j<l.length->l[j]?=some (b j):=⟨λj=>l.getD j d,λj c=>by
 simp only[nt,aN c]
 rfl⟩
section
variable (n:Nat) (l:List (Bh (n+1))) (room:Int)
def vd{m:Nat}(a:List (Sk m)):Sy:=a.foldl (λs c=>(s.start n l room c.1 (m+1) c.2).1) Mw
def uR(B:Nat)(i:Nat)(p:lB)(s:Sy)(d:gz)(W:ag):Prop:=bz p s d W/\(p.room=room/\aB (p.n+6) (cg p.n p.prog) (n+6) (cg n l)=true)/\p8 s/\(d.k<=i*402/\d.es.length<=i*201/\d.wn<=i*201/\d.bn<=i*201)/\B<=p.lo
end
theorem bz.nobody{p:lB}{s:Sy}{d:gz}{w:ag}(b:bz p s d w){q:Nat}(c:w.heap.size<=q):d.ow q=0:=by
 by_cases a:d.ow q=0
 ·exact a
 ·have:=(b.low q a).2;omega
section
variable {n:Nat} {l:List (Bh (n+1))} {room:Int} {w0 W:ag} {R:aO} {H:Nat->Obj} {ia ib sa sb:Nat} {s t:Sy}
theorem uR.later{B i:Nat}{p:lB}{d:gz}{a:ag}(b:uR n l room B i p s d W)(c:am W a):uR n l room B i p s d a:=⟨b.1.later c,b.2⟩
theorem uR.do_eq{B i:Nat}{p:lB}{d:gz}(c:uR n l room B i p s d W)(e:mF n l=0)(kd a b:Int)(k:Nat)(x:Tm k):s.do p.n p.prog p.room kd a b k x=s.do n l room kd a b k x:=by
 rw[c.2.1.1];exact FJ c.2.1.2 c.1.pg.2.2.2.1 e c.1.sound ⟨c.1.keys.2.2.2.1,c.1.keys.2.2.2.2.1⟩ room kd a b k x
end
theorem C3(n:Nat)(l:List (Bh (n+1)))(F:au)(z:Nat)(room:Int)(A:Nat)(f:List (Sk A))(sa:au)(sc:Nat)(w W:ag)(Y:gG (n+1) W.heap.size W F l)(Z:l.length<=z)(ad:z<=maxLen)(X:kO (n+1) l=true->(aC (n+6) (cg n l)).length<=2097152)(af:qv w.heap.size w 5 (Qd A) (JI A w.heap.size w) sa f)(ai:∀c∈f,(aC (A+1) c.2).length<=2097152)(ay:f.length<=1048576)(M:am w W):ao 6 #[ae F l.length z,ab room,ae sa f.length sc] W λe w'=>(e=.returned (.pointer none)/\Hid ((mq n l room≠0\/4<f.length)/\am W w'))\/∃j,e=.returned (aH j)/\Hid (¬(mq n l room≠0\/4<f.length)/\am W w'/\∃p d,p.b=j/\uR n l room W.heap.size 4 p (vd n l room f) d w'):=by
 obtain⟨i,J⟩:=Kz f (⟨#[]⟩,((0,0,⟨#[]⟩),(none,0),[]));have aa:(maxLen:Nat)=9223372036854775807:=rfl;have al:=M.size;have v:∀{W:ag}{m o:Nat}{g:ar},am w W->m<w.heap.size->ah w m o g->ah W m o g:=λ{W m o g} k r t=>(k.cell (p:=⟨m,o,none⟩) r).trans t;refine(DC F l.length z room sa f.length sc (λa=>(i a).1) (λa=>(i a).2.1.2.2) (λa=>(i a).2.1.1) (λa=>(i a).2.1.2.1) (λa=>(i a).2.2.1.1) (λa=>(i a).2.2.2.length) (λa=>(i a).2.2.1.2) W (λg G h=>OT n l room W g G h) (λj a h=>(f.length<=4/\mq n l room=0)/\am W h/\∃p d,p.b=j/\uR n l room W.heap.size a p (vd n l room (f.take a)) d h) (λg h=>(g=.pointer none/\(mq n l room≠0\/4<f.length)/\am W h)\/∃j,g=aH j/\¬(mq n l room≠0\/4<f.length)/\am W h/\∃p d,p.b=j/\uR n l room W.heap.size 4 p (vd n l room f) d h) (by omega) (CQ n l F z room W Y Z ad X) (λg G h s P=>?_) (λg h s B=>?_) (λj a h K I=>?_) λj h I=>?_).mono ?_
 ·exact aj ⟨rfl,by rw[s.1]at P;exact P,s.2.1⟩
 ·obtain⟨p,d,rfl,Q,⟨ap,R,aq,az⟩,av,aA,aB,aw⟩:=s.2.2.2 rfl;exact⟨p.b,rfl,⟨B,s.1.symm⟩,s.2.1,p,d,rfl,Q,⟨av,aw⟩,λ_ t=>(by cases t),⟨by omega,by rw[R];exact aM _,by omega,by omega⟩,by omega⟩
 ·obtain⟨B,k,p,d,rfl,x,y,E,an,D⟩:=I;obtain⟨m,o,V,r,u,L⟩:=KI af (J a K);have q:=M.trans (k.mono al);refine⟨m,o,⟨V,v q r (u 0 _ rfl),v q r (u 1 _ rfl),v q r (u 2 _ rfl),v q r (u 3 _ rfl),v q r (u 4 _ rfl)⟩,λax C=>?_⟩;have N:=q.trans (C.mono q.size);refine((x.later C).start (i a).1 (aF L.1 (dO aa)) (i a).2 ((L.2.below N).mono N.size) (ai _ (aL (J a K))) (by omega) (by omega)).mono ?_;rintro e w' ⟨g,G,rfl,H⟩;obtain⟨_,U,S,T⟩:=H.out;have O:vd n l room (f.take (a+1))=((vd n l room (f.take a)).start p.n p.prog p.room (i a).1 (A+1) (i a).2).1:=by
   rw[y.1,wO y.2];unfold vd;rw[dA,J a K,Option.toList_some,jA];rfl
  rw[<-O]at S;refine⟨g,G,rfl,B,(k.trans (C.mono k.size)).trans (sA (x.later C) T D),p,U,rfl,S,y,?_,by obtain⟨_,_,Q,ap,R,aq⟩:=T;omega,D⟩;rw[O];exact E.start _ _ _
 ·obtain⟨B,k,p,d,rfl,x,y,E,an,D⟩:=I;rw[List.take_length]at x E;exact ak ⟨_,rfl,by omega,k,p,d,rfl,x,y,E,by omega,D⟩
 ·rintro e w' ⟨g,rfl,H⟩;rcases H with⟨rfl,k⟩|⟨j,rfl,t⟩
  ·exact aj ⟨rfl,k⟩
  ·exact ak ⟨j,rfl,t⟩
theorem CX(g:Nat)(u:Option Nat)(a:Int)(nm:ap)(l:ar)(L:Nat)(w:ag)(K:Int->Int->ap->au->Nat->Nat->ag->Prop)(J:Int->Int->ap->au->Nat->Nat->au->Nat->ag->Prop)(P:g<w.heap.size)(A:Hid (ah w g 3 (.map u)))(B:Hid (∀W,am w W->(Instr.lookup 67 (.map u) (ab a) true).run Tryz.prog W=.ok (.tuple #[l,.bool true]) W))(E:Hid (∀W,am w W->ao 33 #[l] W λe w'=>e=.returned (af nm)/\am W w'))(F:Hid (∀W,am w W->w.heap.size<W.heap.size->ao 34 #[l] W λe w'=>∃y0 y1 y2 ya yl yc,e=.returned (.agg #[ab y0,ab y1,af y2,ae ya yl yc])/\Hid (am W w'/\K y0 y1 y2 ya yl yc w')))(C:Hid (∀y0 y1 y2 ya yl yc W,am w W->w.heap.size<W.heap.size->K y0 y1 y2 ya yl yc W->ao 35 #[l] W λe w'=>∃ma d,e=.returned (ae ma L d)/\Hid (am W w'/\∀I,bB (λq=>q=w.heap.size) w' I->J y0 y1 y2 ya yl yc ma d I))):ao 15 #[aH g,ab a] w λe w'=>∃y0 y1 y2 ya yl yc ma d,e=.returned (.tuple #[af nm,.agg #[ab y0,ab y1,af y2,ae ya yl yc],ae ma L d,ab 0])/\Hid (J y0 y1 y2 ya yl yc ma d w'/\am w w'):=by
 go_enter func15,ntmps15;go_upto_region 1 with fail;generalize t:w.alloc _=x;have HB:Hid (am w x):=by
  rw[<-t];exact aS _ _
 have G:Hid (x.heap[w.heap.size]?=some (.cells #[ab 0,ab 0,af ⟨#[]⟩,ae none 0 0] 31)):=by
  rw[<-t];exact aD _ _
 clear t;have O:=B _ HB;have N:ah x g 3 (.map u):=(HB.cell (p:=⟨g,3,none⟩) P).trans A;clear B A;go_wp2_with fail;refine(E _ HB).mono ?_;rintro e Q ⟨rfl,r⟩;have j:=aq (HB.trans (r.mono HB.size));have m:=aq (dp r G);clear r E O N HB G;go_wp2_with fail;refine(F _ j (aI.1 m).1).mono ?_;rintro e R ⟨y0,y1,y2,ya,yl,yc,rfl,h⟩;have k:=aq (j.trans (h.1.mono j.size));have n:=aq (dp h.1 m);have D:=aq (C _ _ _ _ _ _ _ k (aI.1 n).1 h.2);clear C h F j m;go_wp2_with fail;refine D.mono ?_;rintro e b ⟨ma,d,rfl,i⟩;have y:=aq (k.trans (i.1.mono k.size));have c:=dp i.1 n;have H:=aq (i.2 _ (oF b w.heap.size 0 (ab y0) (ab y1) (af y2) (ae ya yl yc)));have z:Hid (am w (cZ b w.heap.size 0 (ab y0) (ab y1) (af y2) (ae ya yl yc))):=(dR (o:=0) (v0:=ab y0) (v1:=ab y1) (v2:=af y2) (v3:=ae ya yl yc) y (av _));have f:=aq (s9 c (ab y0) (ab y1) (af y2) (ae ya yl yc));obtain⟨q,s⟩:∃q,q=w.heap.size:=⟨_,rfl⟩;rw[<-s]at c f z H ⊢;have M:=aq s;clear s;have S:ah b q 0 (ab 0):=ai c 0;have T:ah b q 1 (ab 0):=ai c 1;have U:ah b q 2 (af ⟨#[]⟩):=ai c 2;have V:ah b q 3 (ae none 0 0):=ai c 3;have f0:b.frozen? ⟨q,0,none⟩=false:=by simp[World.frozen?,c]
 have f1:b.frozen? ⟨q,1,none⟩=false:=by simp[World.frozen?,c]
 have f2:b.frozen? ⟨q,2,none⟩=false:=by simp[World.frozen?,c]
 have f3:b.frozen? ⟨q,3,none⟩=false:=by simp[World.frozen?,c]
 clear c i D n k y;go_wp2_with fail;have d0:(cZ b q 0 (ab y0) (ab y1) (af y2) (ae ya yl yc)).cell? ⟨q,0,none⟩=some (ab y0):=ai f 0;have d1:(cZ b q 0 (ab y0) (ab y1) (af y2) (ae ya yl yc)).cell? ⟨q,1,none⟩=some (ab y1):=ai f 1;have d2:(cZ b q 0 (ab y0) (ab y1) (af y2) (ae ya yl yc)).cell? ⟨q,2,none⟩=some (af y2):=ai f 2;have d3:(cZ b q 0 (ab y0) (ab y1) (af y2) (ae ya yl yc)).cell? ⟨q,3,none⟩=some (ae ya yl yc):=ai f 3;simp only[cZ,cP]at d0 d1 d2 d3;exact ay (v:=.tuple #[af nm,.agg #[ab y0,ab y1,af y2,ae ya yl yc],ae ma L d,ab 0]) (by simp[results,results15,go_sem,d0,d1,d2,d3]) rfl ⟨y0,y1,y2,ya,yl,yc,ma,d,rfl,H,M.out▸z.out⟩
def oq(t:Tc)(B:Nat)(y0 y1:Int)(y2:ap)(ya:au)(yl yc:Nat)(W:ag):Prop:=∃(m:Nat)(x:Tm (m+1)),(x.1=(y0,y1,y2)/\x.2.1=(ya,yc)/\x.2.2.length=yl)/\aB (m+1) x 13 t=true/\In W.heap.size W (m+1) x/\cv (λq=>B<=q/\q<W.heap.size) (m+1) x
theorem oq.kee{t:Tc}{B:Nat}{y0 y1:Int}{y2:ap}{ya:au}{yl yc:Nat}{W b:ag}(d:oq t B y0 y1 y2 ya yl yc W){S:aO}(c:bB S W b)(i:∀q,B<=q->q<W.heap.size->¬S q):oq t B y0 y1 y2 ya yl yc b:=by
 obtain⟨j,x,e,f,g,h⟩:=d;have:=eE c (D:=λq=>B<=q/\q<W.heap.size) (λq a=>i q a.1 a.2) ⟨g,h⟩;exact⟨j,x,e,f,this.1,this.2.mono λq a=>⟨a.1,aW a.2 c.size⟩⟩
def rn(a:List Tc)(B:Nat)(ma:au)(W:ag):Prop:=∃ys:List Tc,ys.length=a.length/\fU W.heap.size W 13 ys ma/\ys.map (cn 13)=a/\(∀y∈ys,bG 13 y=0/\cv (λq=>B<=q) 13 y)/\∀g o,ma=some ⟨g,o,none⟩->B<=g
theorem rn.kee{f:List Tc}{B:Nat}{ma:au}{W b:ag}(v:rn f B ma W){S:aO}(e:bB S W b)(k:∀q,B<=q->q<W.heap.size->¬S q):rn f B ma b:=by
 obtain⟨F,A,C,E,n,m⟩:=v;refine⟨F,A,?_,E,n,m⟩;rcases C with s|⟨a,o,t,c,u⟩
 ·exact aj s
 ·subst t;have x:=m a o rfl;refine ak ⟨a,o,rfl,aW c e.size,λz p l=>?_⟩;have w:b.heap[a]?=W.heap[a]? :=e.block a c (k a x c);have d:=u z p l;have y:=eE e (D:=λq=>B<=q/\q<W.heap.size) (λq r=>k q r.1 r.2) ⟨d.2,In.offB (n p (aL l)).2 d.2⟩;refine⟨?_,y.1⟩;obtain⟨g,h,i,j⟩:=d.1;simp only[World.cell?,<-w]at g h i j;exact⟨g,h,i,j⟩
section
variable {p:lB} {s:Sy} {d:gz} {w:ag}
theorem bz.procC(m:bz p s d w){a:Int}{nm:ap}{cs:Tc}{f:List Tc}(G:s.get a=some (nm,cs,f))(T:nm.size<=2048)(ak:d.k<=47000):ao 15 #[aH p.b,ab a] w λe w'=>∃y0 y1 y2 ya yl yc ma i,e=.returned (.tuple #[af nm,.agg #[ab y0,ab y1,af y2,ae ya yl yc],ae ma f.length i,ab 0])/\Hid (((oq cs w.heap.size y0 y1 y2 ya yl yc w'/\rn f w.heap.size ma w')/\f.length<=i)/\am w w'):=by
 obtain⟨n,H⟩:∃n,df d.l a=some n:=by
  have:=m.alive a;rw[G]at this;exact gm.1 this
 obtain⟨Z,L,K,D,v,aj⟩:=m.ps a n H;rw[G]at D;obtain⟨rfl,rfl,rfl⟩:nm=Z/\cs=L/\f=K:=by simpa using D
 refine CX p.b d.po a nm (AU n) f.length w (λy0 y1 y2 ya yl yc h=>oq cs (w.heap.size+1) y0 y1 y2 ya yl yc h) (λy0 y1 y2 ya yl yc ma i w'=>(oq cs w.heap.size y0 y1 y2 ya yl yc w'/\rn f w.heap.size ma w')/\f.length<=i) m.lo.2 m.cells.2.2.2 (λh g=>?_) (λh g=>(v.later g).sname T) (λh g S=>?_) λy0 y1 y2 ya yl yc h g S R=>?_
 ·have:=(m.later g).look a true;rw[if_pos rfl,H]at this;exact this
 ·refine((v.later g).state (by omega)).mono ?_;rintro e w' ⟨c,rfl,t⟩;obtain⟨M,E,N,O,P⟩:=t.out;refine⟨c.1.1,c.1.2.1,c.1.2.2,c.2.1.1,c.2.2.length,c.2.1.2,rfl,M,12,c,⟨rfl,rfl,rfl⟩,?_,E,(In.offB N E).mono λq j=>⟨by omega,j.2⟩⟩;rw[<-P];exact dS _ _ _ _ (eD O)
 ·refine((v.later g).mails2 (by omega) (by omega)).mono ?_;rintro e w' ⟨C,ma,i,rfl,t⟩;obtain⟨V,y,W,X,J,Y⟩:=t;have al:=y.size;refine⟨ma,i,rfl,y,λai F=>⟨⟨?_,?_⟩,J.2⟩⟩
  ·obtain⟨U,x,z,A,B,r⟩:=(R.kee (aR y λ_=>False) λ_ _ _ j=>j).kee F λq ad ag ah=>by omega
   exact⟨U,x,z,A,B,r.mono λq j=>⟨by omega,j.2⟩⟩
  ·have Q:rn f h.heap.size ma w':=⟨C,V,W,X,Y,λu o e=>J.1 u (by rw[e];rfl)⟩;obtain⟨C,z,A,B,r,aa⟩:=Q.kee F λq ad ag ah=>by omega
   exact⟨C,z,A,B,λc I=>⟨(r c I).1,(r c I).2.mono λq j=>by omega⟩,λu o e=>by have:=aa u o e;omega⟩
theorem bz.procS(h:bz p s d w){a:Int}{nm:ap}{cs:Tc}{c:List Tc}(i:s.get a=some (nm,cs,c))(l:nm.size<=2048)(j:d.k<=47000):ao 15 #[aH p.b,ab a] w λe w'=>∃y0 y1 y2 ya yl yc ma f,e=.returned (.tuple #[af nm,.agg #[ab y0,ab y1,af y2,ae ya yl yc],ae ma c.length f,ab 0])/\Hid ((oq cs w.heap.size y0 y1 y2 ya yl yc w'/\rn c w.heap.size ma w')/\am w w'):=by
 refine(h.procC i l j).mono ?_;rintro e w' ⟨y0,y1,y2,ya,yl,yc,ma,f,rfl,g⟩;exact⟨y0,y1,y2,ya,yl,yc,ma,f,rfl,g.out.1.1,g.out.2⟩
end
def OD(base m:Nat)(k:Int×Int)(l:List ar)(R:ag->Prop)(W:ag):Prop:=
 ∃(sa:au)(a sc:Nat)(j:List ar),a<=100000/\base<=W.heap.size/\∀e,am W e->∃(h:Nat)(d:ag),(Instr.mapEntry 51 (.map (some m)) (pk k)).run Tryz.prog e=.ok (.tuple #[ae sa a sc,goInt h]) d/\d.heap.size=e.heap.size/\(∀b,b≠m->d.heap[b]?=e.heap[b]?)/\
  d.ownsRow base 31 4 (ae sa a sc) a j/\∀f c g,d.grownBy g (Value.slice sa a sc).ownBlock->g.ownsRow base 31 4 (ae (some ⟨f,0,none⟩) (a+1) c) (a+1) (j++l)->((Value.slice sa a sc).ownBlock=some f\/f=d.heap.size)->
   ∃i,(Instr.entryStore 51 (.map (some m)) (goInt h) (ae (some ⟨f,0,none⟩) (a+1) c)).run Tryz.prog g=.ok () i/\R i
theorem OY{base m n N:Nat}{f:Int×Int->List (Tm N)}{sl:Int×Int->ar}{W:ag}(a:GM base m n N f sl W){k:Int×Int}(e:I2 k)(M:n<999999)(D:(f k).length<=100000){y:Tm N}{R:ag->Prop}(z:∀g,OM base m n N f sl k y W g->R g):OD base m k (uh (gF N y)) R W:=by
 obtain⟨sa,sc,j⟩:∃u c,sl k=.slice u (f k).length c:=by
  rcases(a.row k e).2 with⟨d,v⟩|⟨w,c,J,d,_⟩
  ·have:(f k).length=0:=v;exact⟨none,0,by rw[d,this]⟩
  ·exact⟨_,c,d⟩
 have K:=a.lt m (aj rfl);refine⟨sa,(f k).length,sc,dq N (f k),D,by omega,λt h=>?_⟩;obtain⟨I,o,r,l,s,A⟩:=a.open e (by omega) h;rw[j]at r;have H:o.ownsRow base 31 4 (.slice sa (f k).length sc) (f k).length (dq N (f k)):=by
  have x:=bw (bw (a.row k e) (aR h λ_=>False) λ_ _ B=>B) l λb i d=>a.ne e (by rw[i,d]);rwa [j]at x
 refine⟨I,o,r,s,λb i=>?_,H,λw c O q F p=>?_⟩
 ·by_cases E:b<t.heap.size
  ·exact l.block b E i
  ·rw[Array.getElem?_eq_none (by omega),Array.getElem?_eq_none (by omega)]
 ·rw[<-j]at q p;obtain⟨g,G,C,_⟩:=Oh.done a e A h l s (aA _ _) q (y:=y) (L:=(f k).length) rfl F p;exact⟨g,G,z g C⟩
def Fz(V:aO)(W a:ag):Prop:=W.heap.size<=a.heap.size/\∀b,V b->b<W.heap.size->a.heap[b]?=W.heap[b]?
theorem Fz.trans{V:aO}{W c d:ag}(a:Fz V W c)(k:Fz V c d):Fz V W d:=⟨aF a.1 k.1,λb e f=>(k.2 b e (aW f a.1)).trans (a.2 b e f)⟩
theorem gI{V:aO}{W a:ag}(c:am W a):Fz V W a:=⟨c.size,λb _ d=>c.block b d⟩
theorem zR{V S:aO}{W a:ag}(c:bB S W a)(d:∀b,V b->¬S b):Fz V W a:=⟨c.size,λb e f=>c.block b f (d b e)⟩
def Gr(V:aO)(a:au)(d:List (ap×Int×Int×Tc))(W:ag):Prop:=
 (d=[]\/∃c,a=some ⟨c,0,none⟩/\V c/\c<W.heap.size/\∀e b,d[e]?=some b->∀(t:Nat)(f:ar),(DO b)[t]?=some f->ah W c (e*7+t) f)/\∀b∈d,(In W.heap.size W 13 b.2.2.2/\cv V 13 b.2.2.2)/\nM b.2.2.2
theorem Ot{V:aO}{W c:ag}(d:Fz V W c){n:Nat}{x:Tm n}(a:In W.heap.size W n x/\cv V n x):In c.heap.size c n x/\cv V n x:=
 ⟨(In.off (P:=λb=>V b/\b<W.heap.size) (λb e=>d.2 b e.1 e.2) (In.offB a.2 a.1) a.1).mono d.1,a.2⟩
theorem Gr.fz{V:aO}{a:au}{h:List (ap×Int×Int×Tc)}{W g:ag}(d:Gr V a h W)(f:Fz V W g):Gr V a h g:=by
 refine⟨?_,λb c=>⟨Ot f (d.2 b c).1,(d.2 b c).2⟩⟩;rcases d.1 with e|⟨i,e,j,k,l⟩
 ·exact aj e
 ·refine ak ⟨i,e,j,aW k f.1,λn b c t o m=>?_⟩;rw[<-l n b c t o m];simp only[World.cell?,f.2 i j k]
theorem Fr.x{base:Nat}{a:au}{f:List (ap×Int×Int×Tc)}{W:ag}(b:Fr base a f W){V:aO}(i:∀q,base<=q->q<W.heap.size->V q):Gr V a f W:=by
 refine⟨?_,λc d=>⟨⟨(b.2 c d).1.1,(In.offB (b.2 c d).1.2 (b.2 c d).1.1).mono λq j=>i q j.1 j.2⟩,(b.2 c d).2⟩⟩;rcases b.1 with e|⟨g,e,k,h,l⟩
 ·exact aj e
 ·exact ak ⟨g,e,i g k h,h,l⟩
def Gv(V:aO)(a:List Tc)(ma:au)(W:ag):Prop:=∃ys:List Tc,ys.length=a.length/\(ys=[]\/∃g o,ma=some ⟨g,o,none⟩/\V g/\g<W.heap.size/\∀i y,ys[i]?=some y->dC W g (o+i*4) 13 y)/\ys.map (cn 13)=a/\∀y∈ys,bG 13 y=0/\In W.heap.size W 13 y/\cv V 13 y
theorem Nh{V:aO}{W a:ag}(j:Fz V W a){g o:Nat}{y:Tc}(f:V g/\g<W.heap.size)(i:dC W g o 13 y):dC a g o 13 y:=by
 obtain⟨b,c,d,e⟩:=i;have h:=j.2 g f.1 f.2;simp only[World.cell?,<-h]at b c d e;exact⟨b,c,d,e⟩
theorem Gv.fz{V:aO}{e:List Tc}{ma:au}{W d:ag}(m:Gv V e ma W)(c:Fz V W d):Gv V e ma d:=by
 obtain⟨s,n,p,q,h⟩:=m;refine⟨s,n,?_,q,λb a=>⟨(h b a).1,Ot c (h b a).2⟩⟩;rcases p with i|⟨l,o,j,f,g,k⟩
 ·exact aj i
 ·exact ak ⟨l,o,j,f,aW g c.1,λr b a=>Nh c ⟨f,g⟩ (k r b a)⟩
theorem rn.x{j:List Tc}{B:Nat}{ma:au}{W:ag}(s:rn j B ma W){V:aO}(k:∀q,B<=q->q<W.heap.size->V q):Gv V j ma W:=by
 obtain⟨n,t,l,u,m,v⟩:=s;have c:∀a∈n,In W.heap.size W 13 a:=λa b=>by
  obtain⟨i,c,e⟩:=List.getElem_of_mem b;rcases l with r|⟨d,o,f,g,h⟩
  ·rw[r]at c;exact absurd c (by simp)
  ·exact(h i a (by rw[aN c,e])).2
 refine⟨n,t,?_,u,λa b=>⟨(m a b).1,c a b,(In.offB (m a b).2 (c a b)).mono λq p=>k q p.1 p.2⟩⟩;rcases l with e|⟨d,o,f,g,h⟩
 ·exact aj e
 ·exact ak ⟨d,o,f,k d (v d o f) g,g,λi a b=>(h i a b).1⟩
structure Gx (B:Nat) (ow:Nat->Int) (m1 m2 c1 c2:Nat) (f:Int×Int->List Tc) (sl:Int×Int->ar) (g:Int×Int->Nat) (W:ag):Prop where
 sent:GM B m1 c1 13 f sl W
 gone:CM m2 c2 g W
 ne:∀b,zS m1 sl b->ow b=0/\b≠m2
 low:B<=m2/\ow m2=0
 own:∀k,I2 k->∀y∈f k,(In W.heap.size W 13 y/\cv (λb=>ow b=0/\¬zS m1 sl b/\b≠m2) 13 y)/\nM y
section
variable {B m1 m2 c1 c2:Nat} {ow ow':Nat->Int} {f:Int×Int->List Tc} {sl:Int×Int->ar} {g:Int×Int->Nat} {W W':ag}
theorem Gx.sys(a:Gx B ow m1 m2 c1 c2 f sl g W)(h:bB (λq=>ow q≠0) W W')(i:∀q,q<W.heap.size->ow' q=ow q):Gx B ow' m1 m2 c1 c2 f sl g W':=by
 refine⟨a.sent.kee h λb c d=>d (a.ne b c).1,a.gone.kept (h.block m2 a.gone.lt λd=>d a.low.2),λb c=>⟨(i b (a.sent.lt b c).2).trans (a.ne b c).1,(a.ne b c).2⟩,⟨a.low.1,(i m2 a.gone.lt).trans a.low.2⟩,λk m d n=>?_⟩;obtain⟨e,l⟩:=a.own k m d n;have j:=eE h (D:=λb=>(ow b=0/\¬zS m1 sl b/\b≠m2)/\b<W.heap.size) (λb c q=>q c.1.1) ⟨e.1,In.offB e.2 e.1⟩;exact⟨⟨j.1,j.2.mono λb c=>⟨(i b c.2).trans c.1.1,c.1.2⟩⟩,l⟩
theorem Gx.later(a:Gx B ow m1 m2 c1 c2 f sl g W)(b:am W W'):Gx B ow m1 m2 c1 c2 f sl g W':=a.sys (aR b _) λ_ _=>rfl
theorem Gx.app(e:Gx B ow m1 m2 c1 c2 f sl g W){k:Int×Int}{y:Tc}(w:I2 k)(u:(In W.heap.size W 13 y/\cv (λb=>ow b=0/\¬zS m1 sl b/\b≠m2) 13 y)/\nM y)(t:∀q,W.heap.size<=q->ow q=0)(r:OM B m1 c1 13 f sl k y W W'):∃o,Gx B ow m1 m2 (c1+1) c2 (fF f k (f k++ [y])) o g W'/\bB (zS m1 sl) W W'/\∀b,zS m1 o b->zS m1 sl b\/W.heap.size<=b:=by
 obtain⟨p,v,j,l⟩:=r;have s:=e.gone.lt;have h:∀a,(In W.heap.size W 13 a/\cv (λb=>ow b=0/\¬zS m1 sl b/\b≠m2) 13 a)/\nM a->(In W'.heap.size W' 13 a/\cv (λb=>ow b=0/\¬zS m1 (fF sl k p) b/\b≠m2) 13 a)/\nM a:=λa d=>by
  have m:=eE j (D:=λb=>(ow b=0/\¬zS m1 sl b/\b≠m2)/\b<W.heap.size) (λb q=>q.1.2.1) ⟨d.1.1,In.offB d.1.2 d.1.1⟩;exact⟨⟨m.1,m.2.mono λb q=>⟨q.1.1,λc=>by rcases l b c with c|c;exact q.1.2.1 c;exact absurd q.2 (by omega),q.1.2.2⟩⟩,d.2⟩
 refine⟨fF sl k p,⟨v,e.gone.kept (j.block m2 s λa=>(e.ne m2 a).2 rfl),λb a=>?_,e.low,λi n a d=>?_⟩,j,l⟩
 ·rcases l b a with c|c
  ·exact e.ne b c
  ·exact⟨t b c,by omega⟩
 ·by_cases c:i=k
  ·subst c;rw[cw]at d;rcases cY.1 d with q|q
   ·exact h a (e.own i n a q)
   ·rw[dx.1 q];exact h y u
  ·rw[bH _ _ c]at d;exact h a (e.own i n a d)
theorem Gx.cnt(a:Gx B ow m1 m2 c1 c2 f sl g W){e:Int×Int->Nat}{c:Nat}(h:bB (λb=>b=m2) W W')(l:CM m2 c e W'):Gx B ow m1 m2 c1 c f sl e W':=by
 refine⟨a.sent.kee h λb d=>(a.ne b d).2,l,a.ne,a.low,λk m o n=>?_⟩;obtain⟨i,j⟩:=a.own k m o n;exact⟨eE h (λb d=>d.2.2) i,j⟩
end
theorem CW(g:Nat)(j:Option Nat)(a:Int)(w:ag)(q:g<w.heap.size)(l:Hid (ah w g 3 (.map j)))(m:Hid (∀W,am w W->(Instr.lookup 67 (.map j) (ab a) true).run Tryz.prog W=.ok (.tuple #[.pointer none,.bool false]) W)):ao 15 #[aH g,ab a] w λe w'=>e=.returned (.tuple #[af ⟨#[]⟩,.agg #[ab 0,ab 0,af ⟨#[]⟩,ae none 0 0],ae none 0 0,ab 4])/\am w w':=by
 go_enter func15,ntmps15;go_upto_region 1 with fail;generalize i:w.alloc _=c;have HB:Hid (am w c):=by
  rw[<-i];exact aS _ _
 have d:c.heap[w.heap.size]?=some (.cells #[ab 0,ab 0,af ⟨#[]⟩,ae none 0 0] 31):=by
  rw[<-i];exact aD _ _
 clear i;have s:=m.out _ HB.out;have r:ah c g 3 (.map j):=(HB.out.cell (p:=⟨g,3,none⟩) q).trans l.out;clear m l;have k:Hid (am w (cZ c w.heap.size 0 (ab 0) (ab 0) (af ⟨#[]⟩) (ae none 0 0))):=(dR (o:=0) (v0:=ab 0) (v1:=ab 0) (v2:=af ⟨#[]⟩) (v3:=ae none 0 0) HB.out (av _));have f:=aq (s9 d (ab 0) (ab 0) (af ⟨#[]⟩) (ae none 0 0));obtain⟨b,h⟩:∃b,b=w.heap.size:=⟨_,rfl⟩;rw[<-h]at d f k ⊢;have n:=aq h;clear h HB;have t:ah c b 0 (ab 0):=ai d 0;have u:ah c b 1 (ab 0):=ai d 1;have x:ah c b 2 (af ⟨#[]⟩):=ai d 2;have y:ah c b 3 (ae none 0 0):=ai d 3;have f0:c.frozen? ⟨b,0,none⟩=false:=by simp[World.frozen?,d]
 have f1:c.frozen? ⟨b,1,none⟩=false:=by simp[World.frozen?,d]
 have f2:c.frozen? ⟨b,2,none⟩=false:=by simp[World.frozen?,d]
 have f3:c.frozen? ⟨b,3,none⟩=false:=by simp[World.frozen?,d]
 clear d;go_wp2_with fail;have d0:(cZ c b 0 (ab 0) (ab 0) (af ⟨#[]⟩) (ae none 0 0)).cell? ⟨b,0,none⟩=some (ab 0):=ai f.out 0;have d1:(cZ c b 0 (ab 0) (ab 0) (af ⟨#[]⟩) (ae none 0 0)).cell? ⟨b,1,none⟩=some (ab 0):=ai f.out 1;have d2:(cZ c b 0 (ab 0) (ab 0) (af ⟨#[]⟩) (ae none 0 0)).cell? ⟨b,2,none⟩=some (af ⟨#[]⟩):=ai f.out 2;have d3:(cZ c b 0 (ab 0) (ab 0) (af ⟨#[]⟩) (ae none 0 0)).cell? ⟨b,3,none⟩=some (ae none 0 0):=ai f.out 3;simp only[cZ,cP]at d0 d1 d2 d3;exact ay (v:=.tuple #[af ⟨#[]⟩,.agg #[ab 0,ab 0,af ⟨#[]⟩,ae none 0 0],ae none 0 0,ab 4]) (by simp[results,results15,go_sem,d0,d1,d2,d3]) rfl ⟨rfl,n.out▸k.out⟩
theorem bz.procN{p:lB}{s:Sy}{d:gz}{w:ag}(c:bz p s d w){a:Int}(g:s.get a=none):ao 15 #[aH p.b,ab a] w λe w'=>e=.returned (.tuple #[af ⟨#[]⟩,.agg #[ab 0,ab 0,af ⟨#[]⟩,ae none 0 0],ae none 0 0,ab 4])/\am w w':=by
 refine CW p.b d.po a w c.lo.2 c.cells.2.2.2 λi f=>?_;have h:df d.l a=none:=by
  have:=c.alive a;rw[g]at this;simpa using this
 have:=(c.later f).look a true;rw[if_pos rfl,h]at this;exact this
theorem qK(W:ag)(l:Nat)(o:Obj)(B:Nat)(b:B<=l):Below B W (W.putObj l o):=
 ⟨rfl,rfl,rfl,by simp,λk a=>World.putObj_heap_other (by omega)⟩
theorem EI{P:Program}{t:Tmp}{ps:Array Tmp}{assign body:Code}{Q:Exit->Act->ag->Prop}{a:Act}{w:ag}(gf:Nat)(lb:Array ar)(s:a.tmps[t]?.getD undef=.func (.func gf) #[] lb)(j:∀args w,(callFunc gf args).run P w=.ok (.enter gf args) w)(u:∀l W,am w W->Calls P gf (#[.func (.yield l) #[] #[]]++lb) W λe h=>(∃v,e=.returned v)/\am W h)(o:∀d,am w d->d.heap[w.heap.size]?=some (.deferred (some []))->Q .normal {a with defers:=[{target:=.collected w.heap.size,args:= #[]}]++a.defers} d):(Code.rangeFunc (.tmp t) ps assign body).wpIn Fence.wide 5 P Q a w:=by
 refine wpIn_rangeFunc ?_;intro fn z;obtain⟨b,c⟩:∃b,(w.alloc (.deferred (some []))).alloc (.loop {state:=.ready,pending:=none,fn,tmps:=a.tmps,params:=ps,assign,body,defers:=w.heap.size})=b:=⟨_,rfl⟩;have f:am w b:=by rw[<-c];exact(aS _ _).alloc (by simp) _
 have A:b.heap.size=w.heap.size+2:=by rw[<-c];simp
 have p:b.heap[w.heap.size+1]?=some (.loop {state:=.ready,pending:=none,fn,tmps:=a.tmps,params:=ps,assign,body,defers:=w.heap.size}):=by
  rw[<-c];have:=World.alloc_heap_new (w.alloc (.deferred (some []))) (.loop {state:=.ready,pending:=none,fn,tmps:=a.tmps,params:=ps,assign,body,defers:=w.heap.size});rwa [iV]at this
 have m:b.heap[w.heap.size]?=some (.deferred (some [])):=by rw[<-c];exact(Below.heap_alloc _ _ _ (by simp)).trans (World.alloc_heap_new w _)
 refine⟨w.heap.size+1,[{target:=.collected w.heap.size,args:= #[]}],b,{target:=.fn (.func gf) lb,args:= #[.func (.yield (w.heap.size+1)) #[] #[]]},b,gf, #[.func (.yield (w.heap.size+1)) #[] #[]]++lb,b,?_,?_,?_,?_,λ_=>by omega,?_⟩
 ·rw[<-c];exact run_enterLoop_outer _ _ _ _ _
 ·simp[resolve,go_sem,s]
 ·intro x y;trivial
 ·simp[invoke,go_sem,j]
 ·refine(lp.2 (u (w.heap.size+1) b f)).mono ?_;rintro e i ⟨⟨B,rfl⟩,g⟩;have q:=(g.block (w.heap.size+1) (by omega)).trans p;have n:=(g.block w.heap.size (by omega)).trans m;have r:=run_endLoop (P:=P) q (by simp);refine⟨none,_,r,?_⟩;have k:=f.trans (g.mono f.size);exact o _ (k.trans ((qK i (w.heap.size+1) _ w.heap.size (by omega)).mono (av _))) ((World.putObj_heap_other (by omega)).trans n)
theorem A3(g:Nat)(lb:Array ar)(k:∀args w,(callFunc g args).run Tryz.prog w=.ok (.enter g args) w)(w:ag)(q:∀l W,am w W->ao g (#[.func (.yield l) #[] #[]]++lb) W λe j=>(∃v,e=.returned v)/\am W j):ao 137 #[ae none 0 0,.func (.func g) #[] lb] w λe w'=>e=.returned (ae none 0 0)/\am w w':=by
 refine(lp (n:=5)).1 ?_;refine callsIn_of_wp_marks func137 rfl trivial ?_ rfl;simp only[ntmps137,eh,bu,iP,Nat.reduceAdd,Nat.reduceSub,pD,pE,pN,pI,iq,eR]
 gi_wp2
 obtain⟨a,b⟩:∃a,w.alloc (.cells #[ae none 0 0] 43)=a:=⟨_,rfl⟩;have h:a.heap.size=w.heap.size+1:=by rw[<-b];simp
 have r:a.heap[w.heap.size]?=some (.cells #[ae none 0 0] 43 (0,0)):=by rw[<-b];exact World.alloc_heap_new w _
 have c:am w a:=by rw[<-b];exact(aA _ w).alloc (av _) _
 rw[b];refine EI g lb rfl k (λl W o=>q l W (c.trans (o.mono c.size))) ?_;intro d f m;have s:ah d w.heap.size 0 (ae none 0 0):=ai ((f.block w.heap.size (by omega)).trans r) 0;have p:=c.trans (f.mono c.size);have i:=aq h;clear h b
 gi_wp2
 refine⟨by simp,.inl ⟨_,_,rfl,run_takeDeferred m,?_⟩⟩;exact⟨_,results_tmp rfl _ _ _,rfl,p.trans ((qK d a.heap.size _ w.heap.size (by rw[i.out];omega)).mono (av _))⟩
theorem uf{w w':ag}(a:am w w'):w.grownBy w' none:=⟨a.os,a.tape,a.output,a.size,λk b _=>a.block k b⟩
theorem zD(g:Nat)(lb:Array ar)(b:∀args w,(callFunc g args).run Tryz.prog w=.ok (.enter g args) w)(w:ag)(d:∀l W,am w W->ao g (#[.func (.yield l) #[] #[]]++lb) W λe a=>(∃v,e=.returned v)/\am W a):ao 93 #[.func (.func g) #[] lb] w λe w'=>e=.returned (ae none 0 0)/\am w w':=by
 go_enter func93,ntmps93;go_wp2_with fail;refine(A3 g lb b w d).mono ?_;rintro e w' ⟨rfl,c⟩;go_wp2_with fail
 go_ret
 exact⟨rfl,c⟩
theorem vF(a:ar)(w:ag):ao 168 #[ae none 0 0,ab 0,ab 0,a] w λe w'=>e=.returned (.tuple #[])/\w'=w:=by
 go_enter func168,ntmps168;go_wp2_with fail;refine lw 1 ?_;rw[iX];go_wp2_with fail;exact dG (v:=.tuple #[]) (by simp[results]) rfl ⟨rfl,rfl⟩
theorem Li(c:Int)(a:ar)(w:ag):ao 138 #[ae none 0 0,ab 0,ab 0,ab c,a] w λe w'=>e=.returned (.tuple #[])/\w'=w:=by
 have b:=vF a;go_enter func138,ntmps138;go_wp2_with fail;refine lw 1 ?_;rw[iX];go_wp2_with fail;refine(b _).mono ?_;rintro e w' ⟨rfl,rfl⟩;go_wp2_with fail;exact ay (v:=.tuple #[]) (by simp[results]) rfl ⟨rfl,rfl⟩
theorem wL(a:ar)(w:ag):ao 94 #[ae none 0 0,a] w λe w'=>e=.returned (.tuple #[])/\w'=w:=by
 have b:=Tryz.bits_Len 0;go_enter func94,ntmps94;go_wp2_with fail;refine(b _ (by decide) (by decide)).mono ?_;rintro e w' ⟨rfl,rfl⟩;go_wp2_with fail;refine(Li _ a _).mono ?_;rintro e w' ⟨rfl,rfl⟩;go_wp2_with fail;exact dG (v:=.tuple #[]) (by simp[results]) rfl ⟨rfl,rfl⟩
theorem CU(g:Nat)(lb:Array ar)(c:∀args w,(callFunc g args).run Tryz.prog w=.ok (.enter g args) w)(a:ar)(w:ag)(f:∀l W,am w W->ao g (#[.func (.yield l) #[] #[]]++lb) W λe b=>(∃v,e=.returned v)/\am W b):ao 60 #[.func (.func g) #[] lb,a] w λe w'=>e=.returned (ae none 0 0)/\am w w':=by
 go_enter func60,ntmps60;go_wp2_with fail;refine(zD g lb c w f).mono ?_;rintro e w' ⟨rfl,d⟩;go_wp2_with fail;refine(wL a _).mono ?_;rintro e h ⟨rfl,rfl⟩;go_wp2_with fail
 go_ret
 exact⟨rfl,d⟩
theorem KH(a:Option Nat)(w:ag):ao 61 #[.map a] w λe w'=>e=.returned (.func (.func 95) #[] #[aH w.heap.size])/\w'=w.alloc (.cells #[.map a] 51):=by
 go_enter func61,ntmps61;go_wp2_with fail
 go_ret
 exact⟨rfl,rfl⟩
abbrev xk:Type:={k:Int×Int // I2 k}
def nF(D:DataW ar)(c:List xk):Prop:=c.Pairwise (λa b=>a≠b)/\∀x,has D x=true ↔∃k∈c,x=kl k.1
def iC(D:DataW ar)(left:Lit->Bool)(a:List xk):Prop:=
 a.Pairwise (λc b=>c≠b)/\(∀k∈a,has D (kl k.1)=true/\left (kl k.1)=false)/\∀x,has D x=true->left x=true\/∃k∈a,x=kl k.1
theorem iC.start(D:DataW ar):iC D (has D) []:=⟨List.Pairwise.nil,λ_ a=>(by cases a),λ_ a=>aj a⟩
theorem iC.step{D:DataW ar}{left:Lit->Bool}{h:List xk}(d:iC D left h)(k:xk)(g:left (kl k.1)=true)(l:has D (kl k.1)=true):iC D (λx=>left x && !x.sameKey (kl k.1)) (h++ [k]):=by
 have m:WideAt.IsKeyLit (kl k.1):=dD.key (dE k.2);refine⟨List.pairwise_append.2 ⟨d.1,List.pairwise_singleton _ _,λi j b f c=>?_⟩,λe a=>?_,λx o=>?_⟩
 ·simp only[dx]at f;subst f c;rw[(d.2.1 i j).2]at g;cases g
 ·simp only[cY,dx]at a;rcases a with a|rfl
  ·exact⟨(d.2.1 e a).1,by simp[(d.2.1 e a).2]⟩
  ·exact⟨l,by simp[WideAt.sameKey_self m]⟩
 ·rcases d.2.2 x o with n|⟨e,a,c⟩
  ·by_cases c:x=kl k.1
   ·exact ak ⟨k,by simp,c⟩
   ·exact aj (by simp[n,sameKey_ne c])
  ·exact ak ⟨e,by simp[a],c⟩
theorem iC.done{D:DataW ar}{left:Lit->Bool}{c:List xk}(b:iC D left c)(d:∀x,left x=false):nF D c:=by
 refine⟨b.1,λx=>⟨λf=>?_,?_⟩⟩
 ·rcases b.2.2 x f with a|a
  ·rw[d]at a;cases a
  ·exact a
 ·rintro ⟨k,e,rfl⟩;exact(b.2.1 k e).1
theorem Ed(o:Fence)(n:Nat)(hF:o.fn 95)(ae:o.round=none)(aC:1<=n)(h b i:Nat)(D:DataW ar)(w:ag)(K:h<w.heap.size)(X:ah w h 0 (.map (some b)))(Y:w.ownsMap Tryz.prog 44 lW b i D):SeqStopsK o n Tryz.prog 95 #[aH h] (λx:xk=>#[pk x.1]) KeepsWalks (nF D) (λ_=>True) (Maps.size D) w:=by
 intro l q ao e A s aw P J;have Z:e.ownsMap Tryz.prog 44 lW b i D:=Y.kept (uf A) (by simp);have aB:ah e h 0 (.map (some b)):=(A.cell (p:=⟨h,0,none⟩) K).trans X;refine callsIn_of_wp func95 rfl hF ?_ ae;simp only[ntmps95,eh,bu,iP,Nat.reduceAdd,Nat.reduceSub,pD,pE,pN,pI,iq,eR]
 gi_wp2_with (first
  | (gi_at_range;refine wpListIn_range_own _ rfl _ 51 rfl 44 29 dD underlying51 _ b i _ rfl Z ?_;intro an aa R aD)
  | gi_in)
 try go_frame
 gi_loopw [3] (λ_ wr=>∃(left:Lit->Bool)(cnt:Nat)(a:List xk),wr.ranges Tryz.prog 44 lW b e.heap.size i D left cnt/\a.length+cnt<=Maps.size D/\(iC D left a/\∀x,left x=true->has D x=true)/\q a wr)
  (λ_ wr=>wr.rangeLeft b e.heap.size)
 case atStart=>
  exact⟨_,_,[],aa,by simp,⟨iC.start D,λ_ I=>I⟩,s [] e an none J R (λG d=>by cases d)⟩
 case round=>
  obtain⟨left,cnt,a,y,aA,m,z⟩:=hrel
  gi_wp2_with (first
   | (gi_at_next;refine wpListIn_next_ranges _ rfl _ rfl 44 dD lW pk id (λkey kl S=>by obtain⟨k,_,d,_⟩:=KG S;exact⟨k,d⟩) (λv aG al=>⟨v,rfl⟩) b e.heap.size i _ _ _ rfl y ?_ ?_)
   | gi_in)
  ·intro az V
   gi_wp2
   exact dG (v:=.tuple #[]) (by simp[results]) rfl ⟨⟨_,rfl⟩,aj ⟨a,m.1.done V,z⟩⟩
  ·intro f g c aE aI aJ j H U C al ax ad W B af Q;obtain⟨k,u,r,rfl⟩:=KG U;obtain rfl:(f,g)=k:=by
    simp only[pk,Value.agg.injEq,Array.mk.injEq,kY,Value.int.injEq,true_and,and_true]at r;exact fJ r.1 r.2
   have M:q a j:=s a wr j (some e.heap.size) z B (λG d=>by cases d;exact⟨av _,y.iter_walk⟩);have N:q a (j.alloc (.cells #[ab f,ab g] 44)):=s a j _ none M (dd j _ none) (λG d=>by cases d);have ai:=m.1.step ⟨(f,g),u⟩ C (m.2 _ C);have L:=m.2;obtain⟨fn,aF,aq,au,am,O⟩:=P a ⟨(f,g),u⟩ _ N (by omega);simp only[pk]at Q am ⊢;clear af B
   gi_wp2
   refine O.mono ?_;rintro d ap (⟨rfl,t,T⟩|⟨rfl,t⟩)
   ·gi_wp2
    have E:=(ad.alloc (.cells #[ab f,ab g] 44)).of_walks T;go_roundw
    case rel=>exact⟨_,H,a++ [⟨(f,g),u⟩],E,by simp;omega,⟨ai,λx F=>L x (by simp at F;exact F.1)⟩,t⟩
    case measure=>rw[E.left_eq,y.left_eq];exact W
   ·gi_wp2
    exact ay (v:=.tuple #[]) (by simp[results]) rfl ⟨⟨_,rfl⟩,ak ⟨_,trivial,t⟩⟩
def fx(l:List xk):List ar:=l.flatMap λk=> [ab k.1.1,ab k.1.2]
theorem wm(l r:List xk):fx (l++r)=fx l++fx r:=by simp[fx]
theorem KD:(Tryz.prog.info? 44).map (λi=>(i.zero,i.size,i.bytes))=some (some (.agg #[ab 0,ab 0]),2,16):=by kernel_rfl
theorem JY{β:Type}(B:Nat)(t:TypeId)(h v:ar):Own (λ(_:β) W=>W.heap[B]?=some (.cells #[h,v] t (0,0))):=λ_ i j row a d g=>by
 have f:=(aI.1 a).1;refine(d.block B f λe=>?_).trans a;obtain⟨o,b,c⟩:=g B e.symm;rw[a]at b;cases b;cases c
theorem GB(j:Fence)(n:Nat)(hF:j.fn 137)(E:j.round=none)(aJ:2<=n)(g:Nat)(lb:Array ar)(T:j.fn g)(O:∀args w,(callFunc g args).run Tryz.prog w=.ok (.enter g args) w)(S:List xk->Prop)(N:Nat)(aF:N<=1000000)(w:ag)(aa:SeqStopsK j (n-1) Tryz.prog g lb (λx:xk=>#[pk x.1]) KeepsWalks S (λ_=>True) N w):CallsIn j n Tryz.prog 137 #[ae none 0 0,.func (.func g) #[] lb] w λe w'=>∃(v:ar)(u:List xk),e=.returned v/\S u/\w'.ownsRow w.heap.size 44 2 v u.length (fx u)/\am w w':=by
 obtain⟨an,Z,af,ak,al⟩:=bU KD;have Q:1<=n:=by omega
 refine callsIn_of_wp_marks func137 rfl hF ?_ E;simp only[ntmps137,eh,bu,iP,Nat.reduceAdd,Nat.reduceSub,pD,pE,pN,pI,iq,eR]
 gi_wp2
 obtain⟨h,k⟩:∃h,w.alloc (.cells #[ae none 0 0] 43)=h:=⟨_,rfl⟩;have aM:h.heap.size=w.heap.size+1:=by rw[<-k];simp
 have ad:Boxed h w.heap.size 43 (ae none 0 0):=by rw[<-k];exact Boxed.new w _ _
 have C:am w h:=by rw[<-k];exact(aA _ w).alloc (av _) _
 rw[k];clear k
 refine wpIn_rangeFunc_ownH E Q (gf:=g) (lb:=lb) rfl T O aa walksK_t (walksK_b (w:=h)) C (λ_=>rfl)
  (λpre a=>(∃v,Boxed a w.heap.size 43 v/\a.ownsRow w.heap.size 44 2 v pre.length (fx pre)/\True)/\am w a)
  (λ_ _ _=>False)
  (OwnFrom.and (Own.from (holdsRow_own w.heap.size w.heap.size 43 44 2 (λpre:List xk=>pre.length) (λpre=>fx pre) (λ_ _=>True)) _) (ownFrom_below (av _) (by omega)))
  (λ_ _ _ _ _ s _ _=>s)
  ⟨⟨_,ad,⟨by simp[fx],aj ⟨rfl,rfl⟩⟩,trivial⟩,C⟩
  (λx p a=>∃Bx,w.heap.size<Bx/\a.heap[Bx]?=some (.cells #[ab x.1.1,ab x.1.2] 44 (0,0))/\p={tmps:= #[ae none 0 0,.func (.func g) #[] lb,aH w.heap.size,undef,ae none 0 0,aH Bx,.func (.func g) #[] lb,pk x.1,undef,undef,undef,undef,undef],defers:=[]})
  (λx p _ G H row s W b=>by obtain⟨Bx,ao,ap,aq⟩:=s;exact⟨Bx,ao,JY (β:=Unit) Bx _ _ _ () G H row ap W (λF e=>(b F e).2),aq⟩)
  ?assign ?body ?done ?stop
 case assign=>
  rintro l pre x a ax ⟨⟨v,d,b,_⟩,f⟩ B;simp only[pk]at B ⊢
  gi_wp2_with (rw[Oper.semAt_eq _ _ _ (λc q=>by cases q)];go_simp;try go_bits)
  refine B _ _ ((KeepsOthers.alloc _ _).from _) (KeepsOthers.alloc _ _).walks ⟨⟨v,d.alloc _,b.alloc _,trivial⟩,f.alloc f.size _⟩ ⟨a.heap.size,d.lt,World.alloc_heap_new a _,rfl⟩
 case body=>
  rintro l pre x p a aG ⟨F,aL⟩ ⟨⟨v,d,b,_⟩,f⟩ ⟨Bx,aE,A,rfl⟩ aI;have L:=d.cell;have aC:=d.frozen;have aO:ah a Bx 0 (ab x.1.1):=ai A 0;have aP:ah a Bx 1 (ab x.1.2):=ai A 1;simp only[pk]
  gi_wp2_with (first
   | (gi_at_builtin;refine wpListIn_append_own _ rfl _ _ 43 rfl w.heap.size 44 an _ 2 16 underlying43 Z af ak al rfl (by decide) _ _ _ rfl (b.alloc _) ⟨a.heap.size,0,none⟩ 1 1 [ab x.1.1,ab x.1.2] rfl rfl (World.news_of_block (cs:= #[ab x.1.1,ab x.1.2]) (t:=44) (fr:=(0,0)) (World.alloc_heap_new a _)) (by simp[Value.oneCell']) (by unfold maxLen;omega) (by omega) (by have:=f.size;simp;omega) ?_;intro au aN D Y aK
      obtain⟨i,m,rfl⟩:∃i m,au=ae (some ⟨i,0,none⟩) (pre.length+1) m:=by
       rcases D.2 with⟨_,P⟩|⟨i,m,aB,e,_⟩
       ·exact absurd P (by omega)
       ·exact⟨i,m,e⟩
      obtain⟨y,I,J,z,K⟩:=d.appended (by decide) b f.size (av _) D Y;have ay:=y.cell;have aD:=y.frozen
      go_frame)
   | (rw[Oper.semAt_eq _ _ _ (λc q=>by cases q)];go_simp;try go_bits))
  refine⟨z.from _,z.walks,⟨_,I,?_,trivial⟩,f.trans (K.mono (av _))⟩;rw[wm,bt];exact J
 case done=>
  rintro o aw a R U ⟨⟨v,d,b,_⟩,f⟩ r;have L:=d.cell
  gi_wp2
  refine⟨by simp,.inl ⟨_,_,rfl,run_takeDeferred r,?_⟩⟩;refine⟨_,results_tmp rfl _ _ _,v,aw,rfl,U,b.kept (grownBy_putObj' _ _ _) ?_,f.trans ((qK a o _ w.heap.size (by omega)).mono (av _))⟩;rcases b.2 with⟨rfl,_⟩|⟨i,cap,az,rfl,_,X,_⟩
  ·exact .inl rfl
  ·refine .inr λM=>?_;have:i=o:=by simpa [Value.ownBlock]using M
   subst this;rw[X]at r;cases r
 case stop=>
  rintro o c pre a R _ V;exact V.elim
def Qr(a b:Int):Int:=if a=0 then b else a
def jI(x y:Int×Int):Int:=Qr (lS x.1 y.1) (lS x.2 y.2)
theorem Pj(a b:Int)(q:Nat)(w:ag)(f:ah w q 0 (ab a))(g:ah w q 1 (ab b)):ao 96 #[ae (some ⟨q,0,none⟩) 2 2] w λe w'=>e=.returned (ab (Qr a b))/\w'=w:=by
 unfold Qr;by_cases c:a=0
 ·subst c;rw[if_pos rfl];by_cases d:b=0
  ·subst d;go_enter func96,ntmps96;go_wp2_with fail;refine lw 3 ?_;rw[iX];go_wp2_with fail;rw[iX];go_wp2_with fail;rw[iX];go_wp2_with fail
   go_ret
   exact⟨rfl,rfl⟩
  ·have i:¬(0:Int)=b:=λe=>d e.symm;go_enter func96,ntmps96;go_wp2_with fail;refine lw 3 ?_;rw[iX];go_wp2_with fail;rw[iX];go_wp2_with fail
   go_ret
   exact⟨rfl,rfl⟩
 ·have h:¬(0:Int)=a:=λe=>c e.symm;rw[if_neg c];go_enter func96,ntmps96;go_wp2_with fail;refine lw 3 ?_;rw[iX];go_wp2_with fail
  go_ret
  exact⟨rfl,rfl⟩
theorem Fm(x y:Int×Int)(w:ag):ao 62 #[.agg #[ab x.1,ab x.2],.agg #[ab y.1,ab y.2]] w λe w'=>e=.returned (ab (jI x y))/\∃q os,w'=Sort.grow (w.drewN q) os:=by
 obtain⟨f,g⟩:=x;obtain⟨y0,y1⟩:=y;go_enter func62,ntmps62;go_wp2_with fail;obtain⟨wr,j⟩:∃wr,wr=(w.alloc (.cells #[ab f,ab g] 44)).alloc (.cells #[ab y0,ab y1] 44):=⟨_,rfl⟩;obtain⟨c,p⟩:∃c,c=w.heap.size:=⟨_,rfl⟩;obtain⟨d,r⟩:∃d,d=w.heap.size+1:=⟨_,rfl⟩;rw[<-j,<-r,<-p];have m:wr.heap[c]?=some (.cells #[ab f,ab g] 44):=by
  rw[j,p];exact((aS _ _).block w.heap.size (by simp)).trans (aD w _)
 have n:wr.heap[d]?=some (.cells #[ab y0,ab y1] 44):=by
  rw[j,r];have k:=aD (w.alloc (.cells #[ab f,ab g] 44)) (.cells #[ab y0,ab y1] 44);have e:(w.alloc (.cells #[ab f,ab g] 44)).heap.size=w.heap.size+1:=by simp
  rwa [e]at k
 have u:Hid (∀o,(wr.alloc o).drew=Sort.grow (w.drewN 1) #[.cells #[ab f,ab g] 44,.cells #[ab y0,ab y1] 44,o]):=λo=>by
  rw[j,Sort.alloc_eq_grow,Sort.alloc_eq_grow,Sort.alloc_eq_grow,Sort.grow_grow,Sort.grow_grow];rfl
 have l:Hid (∀a:ag,(∀b,b<wr.heap.size->a.heap[b]?=wr.heap[b]?)->(ah a c 0 (ab f)/\ah a c 1 (ab g))/\ah a d 0 (ab y0)/\ah a d 1 (ab y1)):=λa t=>by
  have f0:=(t c (aI.1 m).1).trans m;have f1:=(t d (aI.1 n).1).trans n;exact⟨⟨ai f0 0,ai f0 1⟩,ai f1 0,ai f1 1⟩
 have s:Hid (∀h i:ar,((wr.alloc (.cells #[h,i] 3)).drew.cell? ⟨wr.heap.size,0,none⟩=some h/\(wr.alloc (.cells #[h,i] 3)).drew.cell? ⟨wr.heap.size,1,none⟩=some i)):=λh i=>by
  have k:=aD wr (.cells #[h,i] 3);exact⟨ai (w:=(wr.alloc (.cells #[h,i] 3)).drew) k 0,ai (w:=(wr.alloc (.cells #[h,i] 3)).drew) k 1⟩
 obtain⟨⟨z,A⟩,B,C⟩:=l.out wr (λ_ _=>rfl);clear j p r m n;go_wp2_with fail
 go_region_held3 (λa=>(ah a c 0 (ab f)/\ah a c 1 (ab g))/\ah a d 0 (ab y0)/\ah a d 1 (ab y1))
  (first|(go_keep;done)|exact l _ (λ_ _=>rfl)|exact l _ (λb v=>((aA wr.heap.size wr).alloc (av _) _).block b v)) ((first
   | (go_at_call 97;refine(rG _ _ _).mono ?_;rintro e w' ⟨rfl,rfl⟩)
   | (go_at_call 96;refine(Pj (lS f y0) (lS g y1) wr.heap.size _ (s _ _).1 (s _ _).2).mono ?_;rintro e w' ⟨rfl,rfl⟩)))
 all_goals
  go_wp2_with fail
  go_ret
  exact⟨rfl,1,_,u _⟩
theorem MV(x y:Int×Int):jI x y<0 ↔ x.1<y.1\/x.1=y.1/\x.2<y.2:=by
 unfold jI Qr lS;split<;>split<;>(try split)<;>(try split)<;>(try split)<;>omega
end Go.Proofs.YtmmahddlcldmiaaGreat
