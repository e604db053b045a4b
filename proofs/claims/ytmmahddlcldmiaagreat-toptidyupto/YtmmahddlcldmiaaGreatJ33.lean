/- Proved here: plain facts and contracts. No condition but what each names. -/
import Derived.ProofKit
import Derived.OpenShut
import Derived.JoinedCond
import Derived.Test.YtmmahddlcldmiaaGreatJ32
import Derived.Deep.RegionWith
import Derived.Deep.CutBlock
namespace Go.Proofs.YtmmahddlcldmiaaGreat
open Go.ChangeShapes Go.WideShapes Go.ChangeAt Go.RowKit Go.Proofs.Tryz
open Go.RowKit
set_option maxRecDepth 100000
set_option maxHeartbeats 8000000
def wt:(n:Nat)->Tm n->Nat
 | 0,_=>1
 | n+1,x=>1+x.1.2.2.size+(x.2.2.map λy=>wt n y).sum
theorem rD:(n:Nat)->(x:Tm n)->(ay n x).length<=wt n x
 | 0,_=>by simp[ay,wt]
 | n+1,x=>by
  have key:∀l:List (Tm n),(l.flatMap λy=>ay n y).length<=(l.map λy=>wt n y).sum:=by
   intro l
   induction l with
   | nil=>simp
   | cons y l ih=>
    have:=rD n y;simp only[bF,bm,aN,bI];omega
  have:=key x.2.2;simp only[ay,wt,bi];omega
theorem own:ownKnob Tryz.prog.godebug=none:=by kernel_rfl
theorem oQ:laidOutB Tryz.prog=true:=by kernel_rfl
theorem kp:Tryz.prog.cellsOf 31=4:=by kernel_rfl
theorem qZ:Tryz.prog.cellsOf 3=1:=by kernel_rfl
theorem lG:Tryz.prog.cellsOf 9=1:=by kernel_rfl
theorem CY:Tryz.prog.cellsOf 29=1:=by kernel_rfl
theorem zm{f:Type}{P:Nat->f->Prop}:(len:Nat)->(∀i,i<len->∃y,P i y)->∃l:List f,l.length=len/\∀i y,l[i]?=some y->P i y
 | 0,_=>⟨[],rfl,λi y b=>by simp at b⟩
 | len+1,b=>by
  obtain⟨l,j,k⟩:=zm len (λi d=>b i (by omega));obtain⟨e,m⟩:=b len (by omega);refine⟨l++ [e],by simp[j],λi y a=>?_⟩;by_cases d:i<l.length
  ·rw[dr d]at a;exact k i y a
  ·rw[ed (by omega)]at a;have c:i-l.length=0:=by
    by_cases c:i-l.length=0
    ·exact c
    ·rw[eI (by simp;omega)]at a;cases a
   rw[c]at a;have g:e=y:=by simpa using a
   have h:i=len:=by omega
   rw[h,<-g];exact m
theorem NB{H:Type}{n:Nat}:(p:List (Tm n))->(es:List (DataW H))->(∀(i:Nat)(y:Tm n)(e:DataW H),p[i]?=some y->es[i]?=some e->wt n y<=Rows.uptoBulk e)->p.length=es.length->(p.map λy=>wt n y).sum<=Rows.uptoBulkAll es
 | [],es,_,h=>by simp
 | y::p,[],_,h=>by simp at h
 | y::p,e::es,hp,h=>by
  have f:=hp 0 y e (by simp) (by simp);have g:=NB p es (λi d a c b=>hp (i+1) d a (by simpa using c) (by simpa using b)) (by simpa using h);simp only[aN,bI,Rows.uptoBulkAll];omega
theorem EJ(b o i j:Nat):((⟨b,o,none⟩:Addr).add i).add j=⟨b,o+i+j,none⟩:=by
 unfold Addr.add;split<;>split<;>simp_all
theorem sL{w:World}{a:Addr}{v:Value}(c:w.cell? ((a.add 0).add 0)=some v):a=⟨a.block,a.off,none⟩:=by
 have d:(a.add 0).add 0=a:=rfl;rw[d]at c;unfold World.cell? at c;split at c
 ·split at c
  ·cases c
  ·rename_i e;cases a with
   | mk b o f=>cases f with
    | none=>rfl
    | some g=>simp at e
 ·cases c
theorem Ah{k:Int}(a:(Lit.int .i64 k).wf=true):dx k:=by
 have: -9223372036854775808<=k/\k<=9223372036854775807:=by simpa [Lit.wf,IntKind.min,IntKind.max,IntKind.signed,IntKind.bits]using a
 exact this
theorem M1{H:Type}(enc:TypeId×Value->H)(w:World)(p:Nat->Bool):(n f:Nat)->f<=2*n+1->(cs:List Value)->(x:DataW H×List MemPlace)-> DataW.trod enc Tryz.prog w 0 p true f 31 cs=some x-> ∃t:Tm (n+1),cs=[ab t.1.1,ab t.1.2.1,af t.1.2.2,ae t.2.1.1 t.2.2.length t.2.1.2]/\In w.heap.size w (n+1) t/\wt (n+1) t<=Rows.uptoBulk x.1:=by
 intro n
 induction n with
 | zero=>
  intro f aq cs x l;obtain⟨h,m,rfl,rfl,I,K,q⟩:=jg underlying31 l;have u:DataW.trod enc Tryz.prog w 0 p true m 3 ((cs.drop 0).take (Tryz.prog.cellsOf 3))=h[0]? :=q 0 _ rfl;obtain rfl:m=0:=by omega
  have aJ:h.length=4:=K;rw[aI (by omega)]at u;cases u
 | succ n ih=>
  intro f aq cs x l;obtain⟨h,m,rfl,rfl,I,K,q⟩:=jg underlying31 l;have u:DataW.trod enc Tryz.prog w 0 p true m 3 ((cs.drop 0).take (Tryz.prog.cellsOf 3))=h[0]? :=q 0 _ rfl;have R:DataW.trod enc Tryz.prog w 0 p true m 3 ((cs.drop 1).take (Tryz.prog.cellsOf 3))=h[1]? :=q 1 _ rfl;have S:DataW.trod enc Tryz.prog w 0 p true m 9 ((cs.drop 2).take (Tryz.prog.cellsOf 9))=h[2]? :=q 2 _ rfl;have T:DataW.trod enc Tryz.prog w 0 p true m 29 ((cs.drop 3).take (Tryz.prog.cellsOf 29))=h[3]? :=q 3 _ rfl;rw[qZ]at u R;rw[lG]at S;rw[CY]at T;rw[kp]at I;obtain⟨d,i,j,e,rfl⟩:∃d i j e,cs=[d,i,j,e]:=by
   match cs,I with
   | [d,i,j,e],_=>exact⟨d,i,j,e,rfl⟩
  obtain⟨y0,y1,y2,y,rfl⟩:∃y0 y1 y2 y,h=[y0,y1,y2,y]:=by
   match h,K with
   | [y0,y1,y2,y],_=>exact⟨y0,y1,y2,y,rfl⟩
  obtain⟨k,O,ay,Y⟩:=jF underlying3 (x:=y0) (by simpa using u);obtain⟨X,P,az,Z⟩:=jF underlying3 (x:=y1) (by simpa using R);obtain⟨r,Q,aA,aa⟩:=pi underlying9 (x:=y2) (by simpa using S);have aj:DataW.trod enc Tryz.prog w 0 p true m 29 [e]=some y:=by simpa using T
  simp at O P Q;subst O P Q ay az aA;rcases DataW.trod_slice underlying29 aj with⟨s,rfl⟩|⟨a,len,cap,D,aL,ax,rfl,s,rfl,_,aD,an,aC,E,_,_⟩
  ·simp at s;subst s;refine⟨((k,X,r),(none,0),[]),rfl,⟨⟨Ah Y,Ah Z,aa,am _,aH _⟩,ah rfl⟩,?_⟩;have es:r.data.toList.length=r.size:=by rw[ir];rfl
   simp only[wt,Rows.uptoBulk,Rows.uptoBulkAll,aN,b8,gT];omega
  ·simp at s;subst s;simp only[kp]at E;have key:∀c,c<len->∃t:Tm (n+1),(∃b o,a=⟨b,o,none⟩/\b<w.heap.size/\dC w b (o+c*4) (n+1) t)/\In w.heap.size w (n+1) t/\∀g,(D.map (·.1))[c]?=some g->wt (n+1) t<=Rows.uptoBulk g:=by
    intro c au;have V:=E c au;have W:=E 0 (by omega);rw[aI (by omega)]at V W;obtain⟨ad,ao,aw⟩:=bu.1 V;obtain⟨ag,ap,aG⟩:=bu.1 W;obtain⟨_,aE,z⟩:=nb ao;obtain⟨_,aF,al⟩:=nb ap;obtain⟨t,rfl,G,F⟩:=ih ax (by omega) ad _ aw;have U:=sL (w:=w) (a:=a) (v:=ag[0]'(by omega)) (by have:=al 0 (by omega);rw[aI (by omega)]at this;simpa using this);have ak:∀C,(a.add (c*4)).add C=⟨a.block,a.off+c*4+C,none⟩:=λC=>by
     have:=EJ a.block a.off (c*4) C;rw[<-U]at this;exact this
    have d:=z 0 (by omega);have i:=z 1 (by omega);have j:=z 2 (by omega);have e:=z 3 (by omega);rw[ak]at d i j e;simp at d i j e;refine⟨t,⟨a.block,a.off,U,fx w ⟨a.block,a.off+c*4,none⟩ d,d,i,j,e⟩,G,λg A=>?_⟩;rw[dt,aI (by omega)]at A;have:(D[c]).1=g:=by simpa using A
    rw[<-this];exact F
   obtain⟨M,B,J⟩:=zm len key;refine⟨((k,X,r),(some a,cap),M),by simp[B],⟨⟨Ah Y,Ah Z,aa,by simp only;omega,an⟩,?_⟩,?_⟩
   ·rcases Nat.eq_zero_or_pos len with l|l
    ·exact ah (bE (B.trans l))
    ·obtain⟨⟨b,o,rfl,F,_⟩,_,_⟩:=J 0 (M[0]'(by rw[B];exact l)) (aI (by rw[B];exact l));refine ai ⟨b,o,rfl,F,λc N L=>?_⟩;obtain⟨⟨aB,aK,g,_,ar⟩,G,_⟩:=J c N L;simp at g;obtain⟨rfl,rfl⟩:=g;exact⟨ar,G⟩
   ·have av:=NB M (D.map (·.1)) (λc N g L A=>(J c N L).2.2 g A) (by simp;omega);have es:r.data.toList.length=r.size:=by rw[ir];rfl
    simp only[wt,Rows.uptoBulk,Rows.uptoBulkAll,aN,b8]at av ⊢;omega
def Ny(n:Nat)(a:Ac n):Nat:=wt n a.2.1.1+wt n a.2.1.2+a.2.2.1.size+1
def Nz(n:Nat)(c:Cl n):Nat:=wt n c.1.1+wt n c.1.2.1+wt n c.1.2.2+(c.2.2.map (Ny n)).sum+1
def Lx(n:Nat)(b:Bh n):Nat:=b.1.size+(b.2.2.map (Nz n)).sum+1
theorem AF:Tryz.prog.cellsOf 248=11:=by kernel_rfl
theorem sW:Tryz.prog.cellsOf 162=13:=by kernel_rfl
theorem AG:Tryz.prog.cellsOf 151=2:=by kernel_rfl
theorem FY:Tryz.prog.cellsOf 160=1:=by kernel_rfl
theorem yM:Tryz.prog.cellsOf 149=1:=by kernel_rfl
theorem Fp{a H:Type}(g:a->Nat):(p:List a)->(es:List (DataW H))->(∀(i:Nat)(y:a)(e:DataW H),p[i]?=some y->es[i]?=some e->g y<=Rows.uptoBulk e)->p.length=es.length->(p.map g).sum<=Rows.uptoBulkAll es
 | [],es,_,h=>by simp
 | y::p,[],_,h=>by simp at h
 | y::p,e::es,hp,h=>by
  have j:=hp 0 y e (by simp) (by simp);have k:=Fp g p es (λi f b d c=>hp (i+1) f b (by simpa using d) (by simpa using c)) (by simpa using h);simp only[aN,bI,Rows.uptoBulkAll];omega
theorem vJ{H q:Type}(enc:TypeId×Value->H)(w:World)(L:Nat->Bool)(k:Nat)(f:q->List Value)(r:q->Prop)(g:q->Nat)(T S:TypeId)(P:Tryz.prog.underlying S=some (.slice T))(ab:Tryz.prog.cellsOf T=k)(an:0<k)(K:∀y,(f y).length=k)(D:Nat)(O:∀(m:Nat)(cs:List Value)(x:DataW H×List MemPlace),m<=D->DataW.trod enc Tryz.prog w 0 L true m T cs=some x->∃y,cs=f y/\r y/\g y<=Rows.uptoBulk x.1)(m:Nat)(ar:m<=D)(v:Value)(x:DataW H×List MemPlace)(j:DataW.trod enc Tryz.prog w 0 L true m S [v]=some x):∃a l c,v=ae a l.length c/\l.length<=c/\c<=maxLen/\p8 w.heap.size w k f r a l/\(l.map g).sum+1<=Rows.uptoBulk x.1:=by
 rcases DataW.trod_slice P j with⟨d,rfl⟩|⟨a,len,cap,s,ax,ag,rfl,d,rfl,_,aq,V,al,t,_,_⟩
 ·simp at d;subst d;exact⟨none,[],0,rfl,am _,aH _,ah rfl,by simp[Rows.uptoBulk]⟩
 ·simp at d;subst d;simp only[ab]at t;have key:∀e,e<len->∃y:q,(∃b o,a=⟨b,o,none⟩/\b<w.heap.size/\∀(h:Nat)(i:Value),(f y)[h]?=some i->w.cell? ⟨b,o+e*k+h,none⟩=some i)/\r y/\∀d,(s.map (·.1))[e]?=some d->g y<=Rows.uptoBulk d:=by
   intro e Z;have G:=t e Z;have I:=t 0 (by omega);rw[aI (by omega)]at G I;obtain⟨M,W,ad⟩:=bu.1 G;obtain⟨N,X,av⟩:=bu.1 I;obtain⟨_,ao,R⟩:=nb W;obtain⟨_,ap,U⟩:=nb X;obtain⟨y,rfl,z,u⟩:=O ag M _ (by omega) ad;have E:=sL (w:=w) (a:=a) (v:=N[0]'(by omega)) (by have:=U 0 (by omega);rw[aI (by omega)]at this;simpa using this);have Q:∀h,(a.add (e*k)).add h=⟨a.block,a.off+e*k+h,none⟩:=λh=>by
    have:=EJ a.block a.off (e*k) h;rw[<-E]at this;exact this
   have F:∀(h:Nat)(i:Value),(f y)[h]?=some i->w.cell? ⟨a.block,a.off+e*k+h,none⟩=some i:=λh i J=>by
    have aa:=(aS.1 J).1;have:=R h (by rw[K]at aa;omega);rw[Q,J]at this;exact this
   obtain⟨aj,af⟩:∃i,(f y)[0]?=some i:=⟨(f y)[0]'(by rw[K];omega),aI _⟩;refine⟨y,⟨a.block,a.off,E,fx w ⟨a.block,a.off+e*k+0,none⟩ (F 0 aj af),F⟩,z,λd n=>?_⟩;rw[dt,aI (by omega)]at n;have:(s[e]).1=d:=by simpa using n
   rw[<-this];exact u
  obtain⟨C,p,A⟩:=zm len key;refine⟨some a,C,cap,by rw[p],by omega,V,?_,?_⟩
  ·rcases Nat.eq_zero_or_pos len with j|j
   ·exact ah (bE (p.trans j))
   ·obtain⟨⟨b,o,rfl,u,_⟩,_,_⟩:=A 0 (C[0]'(by rw[p];exact j)) (aI (by rw[p];exact j));refine ai ⟨b,o,rfl,u,λe y B=>?_⟩;obtain⟨⟨ak,aw,d,_,Y⟩,z,_⟩:=A e y B;simp at d;obtain⟨rfl,rfl⟩:=d;exact⟨Y,z⟩
  ·have au:=Fp g C (s.map (·.1)) (λe y d B n=>(A e y B).2.2 d n) (by simp;omega);simp only[Rows.uptoBulk];omega
theorem nF{H:Type}(enc:TypeId×Value->H)(w:World)(a:Nat->Bool)(n m:Nat)(f:m<=n)(cs:List Value)(x:DataW H×List MemPlace)(b:DataW.trod enc Tryz.prog w 0 a true m 31 cs=some x):∃t:Tm (n+1),cs=iq (n+1) t/\In w.heap.size w (n+1) t/\wt (n+1) t<=Rows.uptoBulk x.1:=by
 obtain⟨t,c,d,e⟩:=M1 enc w a n m (by omega) cs x b;exact⟨t,c,d,e⟩
theorem NV{H:Type}(enc:TypeId×Value->H)(w:World)(b:Nat->Bool)(n m:Nat)(Y:m<=n)(cs:List Value)(x:DataW H×List MemPlace)(M:DataW.trod enc Tryz.prog w 0 b true m 248 cs=some x):∃a:Ac (n+1),cs=f9 (n+1) a/\iE (n+1) w.heap.size w a/\Ny (n+1) a<=Rows.uptoBulk x.1:=by
 obtain⟨c,m,rfl,rfl,G,N,o⟩:=jg underlying248 M;have B:DataW.trod enc Tryz.prog w 0 b true m 3 ((cs.drop 0).take (Tryz.prog.cellsOf 3))=c[0]? :=o 0 _ rfl;have C:DataW.trod enc Tryz.prog w 0 b true m 31 ((cs.drop 1).take (Tryz.prog.cellsOf 31))=c[1]? :=o 1 _ rfl;have D:DataW.trod enc Tryz.prog w 0 b true m 31 ((cs.drop 5).take (Tryz.prog.cellsOf 31))=c[2]? :=o 2 _ rfl;have E:DataW.trod enc Tryz.prog w 0 b true m 9 ((cs.drop 9).take (Tryz.prog.cellsOf 9))=c[3]? :=o 3 _ rfl;have F:DataW.trod enc Tryz.prog w 0 b true m 3 ((cs.drop 10).take (Tryz.prog.cellsOf 3))=c[4]? :=o 4 _ rfl;rw[qZ]at B F;rw[kp]at C D;rw[lG]at E;rw[AF]at G;obtain⟨r,d,e,f,g,h,i,j,l,u,s,rfl⟩:∃r d e f g h i j l u s,cs=[r,d,e,f,g,h,i,j,l,u,s]:=by
  match cs,G with
  | [r,d,e,f,g,h,i,j,l,u,s],_=>exact⟨r,d,e,f,g,h,i,j,l,u,s,rfl⟩
 obtain⟨y0,y1,y2,p,q,rfl⟩:∃y0 y1 y2 p q,c=[y0,y1,y2,p,q]:=by
  match c,N with
  | [y0,y1,y2,p,q],_=>exact⟨y0,y1,y2,p,q,rfl⟩
 obtain⟨k,y,T,Q⟩:=jF underlying3 (x:=y0) (by simpa using B);obtain⟨J,A,V,S⟩:=jF underlying3 (x:=q) (by simpa using F);obtain⟨v,z,U,R⟩:=pi underlying9 (x:=p) (by simpa using E);obtain⟨t,K,O,W⟩:=nF enc w b n m (by omega) [d,e,f,g] y1 (by simpa using C);obtain⟨I,L,P,X⟩:=nF enc w b n m (by omega) [h,i,j,l] y2 (by simpa using D);simp at y z A;subst y z A T U V;refine⟨(k,(t,I),(v,J)),?_,⟨Ah Q,O,P,R,Ah S⟩,?_⟩
 ·show _=ab k::(iq (n+1) t++iq (n+1) I++ [af v,ab J]);rw[<-K,<-L];rfl
 ·have es:v.data.toList.length=v.size:=by rw[ir];rfl
  simp only[Ny,Rows.uptoBulk,Rows.uptoBulkAll,aN,b8];omega
theorem F4{H:Type}(enc:TypeId×Value->H)(w:World)(b:Nat->Bool)(n m:Nat)(F:m<=n)(cs:List Value)(x:DataW H×List MemPlace)(z:DataW.trod enc Tryz.prog w 0 b true m 162 cs=some x):∃a:Cl (n+1),cs=e9 (n+1) a/\g8 (n+1) w.heap.size w a/\Nz (n+1) a<=Rows.uptoBulk x.1:=by
 obtain⟨d,m,rfl,rfl,E,Q,y⟩:=jg underlying162 z;have A:DataW.trod enc Tryz.prog w 0 b true m 31 ((cs.drop 0).take (Tryz.prog.cellsOf 31))=d[0]? :=y 0 _ rfl;have B:DataW.trod enc Tryz.prog w 0 b true m 31 ((cs.drop 4).take (Tryz.prog.cellsOf 31))=d[1]? :=y 1 _ rfl;have C:DataW.trod enc Tryz.prog w 0 b true m 160 ((cs.drop 8).take (Tryz.prog.cellsOf 160))=d[2]? :=y 2 _ rfl;have D:DataW.trod enc Tryz.prog w 0 b true m 31 ((cs.drop 9).take (Tryz.prog.cellsOf 31))=d[3]? :=y 3 _ rfl;rw[kp]at A B D;rw[FY]at C;rw[sW]at E;obtain⟨e,f,j,k,o,p,q,r,s,u,g,h,i,rfl⟩:∃e f j k o p q r s u g h i,cs=[e,f,j,k,o,p,q,r,s,u,g,h,i]:=by
  match cs,E with
  | [e,f,j,k,o,p,q,r,s,u,g,h,i],_=>exact⟨e,f,j,k,o,p,q,r,s,u,g,h,i,rfl⟩
 obtain⟨y0,y1,y2,v,rfl⟩:∃y0 y1 y2 v,d=[y0,y1,y2,v]:=by
  match d,Q with
  | [y0,y1,y2,v],_=>exact⟨y0,y1,y2,v,rfl⟩
 obtain⟨t,J,R,U⟩:=nF enc w b n m (by omega) [e,f,j,k] y0 (by simpa using A);obtain⟨G,K,S,V⟩:=nF enc w b n m (by omega) [o,p,q,r] y1 (by simpa using B);obtain⟨I,M,T,W⟩:=nF enc w b n m (by omega) [u,g,h,i] v (by simpa using D);obtain⟨a,l,c,L,O,N,P,X⟩:=vJ enc w b 11 (f9 (n+1)) (iE (n+1) w.heap.size w) (Ny (n+1)) 248 160 underlying160 AF (by omega) (λ_=>rfl) n (λm cs x F z=>NV enc w b n m F cs x z) m (by omega) s y2 (by simpa using C);subst L;refine⟨((t,G,I),(a,c),l),?_,⟨⟨R,S,T⟩,⟨O,N⟩,P⟩,?_⟩
 ·show _=iq (n+1) t++iq (n+1) G++(ae a l.length c::iq (n+1) I);rw[<-J,<-K,<-M];rfl
 ·simp only[Nz,Rows.uptoBulk,Rows.uptoBulkAll,aN,b8];omega
theorem NY{H:Type}(enc:TypeId×Value->H)(w:World)(d:Nat->Bool)(n m:Nat)(q:m<=n)(cs:List Value)(x:DataW H×List MemPlace)(g:DataW.trod enc Tryz.prog w 0 d true m 151 cs=some x):∃a:Bh (n+1),cs=pH (n+1) a/\pE (n+1) w.heap.size w a/\Lx (n+1) a<=Rows.uptoBulk x.1:=by
 obtain⟨f,m,rfl,rfl,p,v,o⟩:=jg underlying151 g;have j:DataW.trod enc Tryz.prog w 0 d true m 9 ((cs.drop 0).take (Tryz.prog.cellsOf 9))=f[0]? :=o 0 _ rfl;have k:DataW.trod enc Tryz.prog w 0 d true m 149 ((cs.drop 1).take (Tryz.prog.cellsOf 149))=f[1]? :=o 1 _ rfl;rw[lG]at j;rw[yM]at k;rw[AG]at p;obtain⟨e,b,rfl⟩:∃e b,cs=[e,b]:=by
  match cs,p with
  | [e,b],_=>exact⟨e,b,rfl⟩
 obtain⟨y0,y1,rfl⟩:∃y0 y1,f=[y0,y1]:=by
  match f,v with
  | [y0,y1],_=>exact⟨y0,y1,rfl⟩
 obtain⟨h,i,z,y⟩:=pi underlying9 (x:=y0) (by simpa using j);obtain⟨a,l,c,r,t,s,u,A⟩:=vJ enc w d 13 (e9 (n+1)) (g8 (n+1) w.heap.size w) (Nz (n+1)) 162 149 underlying149 sW (by omega) (λ_=>rfl) n (λm cs x q g=>F4 enc w d n m q cs x g) m (by omega) b y1 (by simpa using k);simp at i;subst i z r;refine⟨(h,(a,c),l),rfl,⟨y,⟨t,s⟩,u⟩,?_⟩;have es:h.data.toList.length=h.size:=by rw[ir];rfl
 simp only[Lx,Rows.uptoBulk,Rows.uptoBulkAll,aN,b8];omega
theorem G3{H:Type}{enc:TypeId×Value->H}{W:World}{r:Reach}{g:Nat}{v:Value}{d:DataW H}{p:List MemPlace}(u:Value.okWide Tryz.prog W r g 22 v)(b:DataW.Trod enc Tryz.prog W 0 (λ_=>true) true 22 v d p):∃n,∃l:List (Bh (n+1)),∃a c,v=ae a l.length c/\l.length<=c/\c<=maxLen/\gh (n+1) W.heap.size W a l/\(l.map (Lx (n+1))).sum<=Rows.uptoBulk d:=by
 obtain⟨a,len,cap,rfl⟩:=okWide_slice underlying22 u;obtain⟨f,q⟩:=b;have s:DataW.trod enc Tryz.prog W 0 (λ_=>true) true f 22 [ae a len cap]=some (d,p):=q;obtain⟨e,l,c,i,j,k,m,o⟩:=vJ enc W (λ_=>true) 2 (pH (f+1)) (pE (f+1) W.heap.size W) (Lx (f+1)) 151 22 underlying22 AG (by omega) (λ_=>rfl) f (λw h x t b=>NY enc W _ f w t h x b) f (am _) _ _ s;exact⟨f,l,e,c,i,j,k,m,by simp only at o;omega⟩
abbrev Sk(n:Nat):Type:=ByteArray×Tm (n+1)
def Pe(n:Nat)(c:Sk n):List Value:=af c.1::iq (n+1) c.2
def Nf(n:Nat)(c:Sk n):Nat:=wt (n+1) c.2+1
def IS(n:Nat)(B:Nat)(w:World)(c:Sk n):Prop:=c.1.size<=maxLen/\In B w (n+1) c.2
abbrev Hn(n:Nat):Type:=(Int×Int×Int)×Tm (n+1)
def Ps(n:Nat)(c:Hn n):List Value:=ab c.1.1::ab c.1.2.1::ab c.1.2.2::iq (n+1) c.2
def Nc(n:Nat)(c:Hn n):Nat:=wt (n+1) c.2+1
def FI(n:Nat)(B:Nat)(w:World)(c:Hn n):Prop:=(dx c.1.1/\dx c.1.2.1/\dx c.1.2.2)/\In B w (n+1) c.2
theorem uA:Tryz.prog.cellsOf 64=5:=by kernel_rfl
theorem qY:Tryz.prog.cellsOf 33=7:=by kernel_rfl
theorem KO{H:Type}(enc:TypeId×Value->H)(w:World)(g:Nat->Bool)(n m:Nat)(A:m<=n)(cs:List Value)(x:DataW H×List MemPlace)(r:DataW.trod enc Tryz.prog w 0 g true m 64 cs=some x):∃a:Sk n,cs=Pe n a/\IS n w.heap.size w a/\Nf n a<=Rows.uptoBulk x.1:=by
 obtain⟨h,m,rfl,rfl,o,s,l⟩:=jg underlying64 r;have j:DataW.trod enc Tryz.prog w 0 g true m 9 ((cs.drop 0).take (Tryz.prog.cellsOf 9))=h[0]? :=l 0 _ rfl;have k:DataW.trod enc Tryz.prog w 0 g true m 31 ((cs.drop 1).take (Tryz.prog.cellsOf 31))=h[1]? :=l 1 _ rfl;rw[lG]at j;rw[kp]at k;rw[uA]at o;obtain⟨f,b,c,d,e,rfl⟩:∃f b c d e,cs=[f,b,c,d,e]:=by
  match cs,o with
  | [f,b,c,d,e],_=>exact⟨f,b,c,d,e,rfl⟩
 obtain⟨y0,y1,rfl⟩:∃y0 y1,h=[y0,y1]:=by
  match h,s with
  | [y0,y1],_=>exact⟨y0,y1,rfl⟩
 obtain⟨p,i,y,v⟩:=pi underlying9 (x:=y0) (by simpa using j);obtain⟨t,q,u,z⟩:=nF enc w g n m (by omega) [b,c,d,e] y1 (by simpa using k);simp at i;subst i y;refine⟨(p,t),?_,⟨v,u⟩,?_⟩
 ·show _=af p::iq (n+1) t;rw[<-q]
 ·simp only[Nf,Rows.uptoBulk,Rows.uptoBulkAll,aN,b8];omega
theorem Dk{H:Type}(enc:TypeId×Value->H)(w:World)(c:Nat->Bool)(n m:Nat)(N:m<=n)(cs:List Value)(x:DataW H×List MemPlace)(C:DataW.trod enc Tryz.prog w 0 c true m 33 cs=some x):∃a:Hn n,cs=Ps n a/\FI n w.heap.size w a/\Nc n a<=Rows.uptoBulk x.1:=by
 obtain⟨d,m,rfl,rfl,A,D,p⟩:=jg underlying33 C;have u:DataW.trod enc Tryz.prog w 0 c true m 3 ((cs.drop 0).take (Tryz.prog.cellsOf 3))=d[0]? :=p 0 _ rfl;have v:DataW.trod enc Tryz.prog w 0 c true m 3 ((cs.drop 1).take (Tryz.prog.cellsOf 3))=d[1]? :=p 1 _ rfl;have y:DataW.trod enc Tryz.prog w 0 c true m 3 ((cs.drop 2).take (Tryz.prog.cellsOf 3))=d[2]? :=p 2 _ rfl;have z:DataW.trod enc Tryz.prog w 0 c true m 31 ((cs.drop 3).take (Tryz.prog.cellsOf 31))=d[3]? :=p 3 _ rfl;rw[qZ]at u v y;rw[kp]at z;rw[qY]at A;obtain⟨j,l,o,e,f,g,h,rfl⟩:∃j l o e f g h,cs=[j,l,o,e,f,g,h]:=by
  match cs,A with
  | [j,l,o,e,f,g,h],_=>exact⟨j,l,o,e,f,g,h,rfl⟩
 obtain⟨y0,y1,y2,i,rfl⟩:∃y0 y1 y2 i,d=[y0,y1,y2,i]:=by
  match d,D with
  | [y0,y1,y2,i],_=>exact⟨y0,y1,y2,i,rfl⟩
 obtain⟨k,q,J,F⟩:=jF underlying3 (x:=y0) (by simpa using u);obtain⟨a,r,K,G⟩:=jF underlying3 (x:=y1) (by simpa using v);obtain⟨b,s,L,I⟩:=jF underlying3 (x:=y2) (by simpa using y);obtain⟨t,B,E,M⟩:=nF enc w c n m (by omega) [e,f,g,h] i (by simpa using z);simp at q r s;subst q r s J K L;refine⟨((k,a,b),t),?_,⟨⟨Ah F,Ah G,Ah I⟩,E⟩,?_⟩
 ·show _=ab k::ab a::ab b::iq (n+1) t;rw[<-B]
 ·simp only[Nc,Rows.uptoBulk,Rows.uptoBulkAll,aN,b8];omega
theorem BI{H:Type}{enc:TypeId×Value->H}{W:World}{r:Reach}{g:Nat}{v:Value}{d:DataW H}{p:List MemPlace}(u:Value.okWide Tryz.prog W r g 23 v)(b:DataW.Trod enc Tryz.prog W 0 (λ_=>true) true 23 v d p):∃n,∃l:List (Sk n),∃a c,v=ae a l.length c/\l.length<=c/\c<=maxLen/\p8 W.heap.size W 5 (Pe n) (IS n W.heap.size W) a l/\(l.map (Nf n)).sum<=Rows.uptoBulk d:=by
 obtain⟨a,len,cap,rfl⟩:=okWide_slice underlying23 u;obtain⟨f,q⟩:=b;have s:DataW.trod enc Tryz.prog W 0 (λ_=>true) true f 23 [ae a len cap]=some (d,p):=q;obtain⟨e,l,c,i,j,k,m,o⟩:=vJ enc W (λ_=>true) 5 (Pe f) (IS f W.heap.size W) (Nf f) 64 23 underlying23 uA (by omega) (λ_=>rfl) f (λw h x t b=>KO enc W _ f w t h x b) f (am _) _ _ s;exact⟨f,l,e,c,i,j,k,m,by simp only at o;omega⟩
theorem zw{H:Type}{enc:TypeId×Value->H}{W:World}{r:Reach}{g:Nat}{v:Value}{d:DataW H}{p:List MemPlace}(u:Value.okWide Tryz.prog W r g 24 v)(b:DataW.Trod enc Tryz.prog W 0 (λ_=>true) true 24 v d p):∃n,∃l:List (Hn n),∃a c,v=ae a l.length c/\l.length<=c/\c<=maxLen/\p8 W.heap.size W 7 (Ps n) (FI n W.heap.size W) a l/\(l.map (Nc n)).sum<=Rows.uptoBulk d:=by
 obtain⟨a,len,cap,rfl⟩:=okWide_slice underlying24 u;obtain⟨f,q⟩:=b;have s:DataW.trod enc Tryz.prog W 0 (λ_=>true) true f 24 [ae a len cap]=some (d,p):=q;obtain⟨e,l,c,i,j,k,m,o⟩:=vJ enc W (λ_=>true) 7 (Ps f) (FI f W.heap.size W) (Nc f) 33 24 underlying24 qY (by omega) (λ_=>rfl) f (λw h x t b=>Dk enc W _ f w t h x b) f (am _) _ _ s;exact⟨f,l,e,c,i,j,k,m,by simp only at o;omega⟩
theorem BM{b:Type}(f:b->Nat)(l:List b)(y:b)(a:y∈l):f y<=(l.map f).sum:=by
 induction l with
 | nil=>cases a
 | cons c l ih=>
  simp only[aN,bI];rcases cm.1 a with rfl|a
  ·omega
  ·have:=ih a;omega
theorem vC{b:Type}(f:b->Nat)(a:∀y,1<=f y):(l:List b)->l.length<=(l.map f).sum
 | []=>aH _
 | y::l=>by
  have:=vC f a l;have:=a y;simp only[aN,bI,bi];omega
theorem Dy{d:Type}{B k:Nat}{f:d->List Value}{e:d->Prop}{a:Option Addr}{l:List d}{w:World}(b:p8 B w k f e a l){j:Nat}{y:d}(c:l[j]?=some y):∃g o,a=some ⟨g,o,none⟩/\g<B/\(∀(t:Nat)(u:Value),(f y)[t]?=some u->w.cell? ⟨g,o+j*k+t,none⟩=some u)/\e y:=by
 rcases b with b|⟨g,o,h,i,b⟩
 ·rw[b]at c;simp at c
 ·exact⟨g,o,h,i,(b j y c).1,(b j y c).2⟩
theorem JI{a:Type}(l:List a)(d:a):∃b:Nat->a,∀j,j<l.length->l[j]?=some (b j):=⟨λj=>l.getD j d,λj c=>by
 simp only[mR,aI c]
 rfl⟩
section
variable (n:Nat) (l:List (Bh (n+1))) (room:Int)
def yG{m:Nat}(a:List (Sk m)):Sy:=a.foldl (λs c=>(s.start n l room c.1 (m+1) c.2).1) MW
def p9(B:Nat)(i:Nat)(p:jY)(s:Sy)(d:fT)(W:World):Prop:=bj p s d W/\(p.room=room/\ax (p.n+6) (bW p.n p.prog) (n+6) (bW n l)=true)/\pF s/\(d.k<=i*402/\d.es.length<=i*201/\d.wn<=i*201/\d.bn<=i*201)/\B<=p.lo
def iL(w0:World)(R:Nat->Prop)(H:Nat->Obj)(e f sa g:Nat)(s t:Sy)(W:World):Prop:=∃(pa d:jY)(a c:fT),(pa.b=sa/\d.b=g)/\p9 n l room w0.heap.size e pa s a W/\p9 n l room w0.heap.size f d t c W/\(∀q,a.ow q≠0->c.ow q=0)/\(aj w0 W/\lP n l=0)/\∀q,R q->W.heap[q]?=some (H q)/\a.ow q=0/\c.ow q=0
end
theorem bj.nobody{p:jY}{s:Sy}{d:fT}{w:World}(b:bj p s d w){q:Nat}(c:w.heap.size<=q):d.ow q=0:=by
 by_cases a:d.ow q=0
 ·exact a
 ·have:=(b.low q a).2;omega
section
variable {n:Nat} {l:List (Bh (n+1))} {room:Int} {w0 W:World} {R:Nat->Prop} {H:Nat->Obj} {ia ib sa sb:Nat} {s t:Sy}
theorem p9.later{B i:Nat}{p:jY}{d:fT}{a:World}(b:p9 n l room B i p s d W)(c:aj W a):p9 n l room B i p s d a:=⟨b.1.later c,b.2⟩
theorem p9.do_eq{B i:Nat}{p:jY}{d:fT}(c:p9 n l room B i p s d W)(e:lP n l=0)(kd a b:Int)(k:Nat)(x:Tm k):s.do p.n p.prog p.room kd a b k x=s.do n l room kd a b k x:=by
 rw[c.2.1.1];exact EW c.2.1.2 c.1.pg.2.2.2.1 e c.1.sound ⟨c.1.keys.2.2.2.1,c.1.keys.2.2.2.2.1⟩ room kd a b k x
theorem iL.swap(i:iL n l room w0 R H ia ib sa sb s t W):iL n l room w0 R H ib ia sb sa t s W:=by
 obtain⟨pa,p,d,f,⟨g,h⟩,j,k,m,o,c⟩:=i;refine⟨p,pa,f,d,⟨h,g⟩,k,j,λa b=>?_,o,λa b=>⟨(c a b).1,(c a b).2.2,(c a b).2.1⟩⟩;by_cases e:d.ow a=0
 ·exact e
 ·exact absurd (m a e) b
theorem iL.later(j:iL n l room w0 R H ia ib sa sb s t W){f:World}(a:aj W f):iL n l room w0 R H ia ib sa sb s t f:=by
 obtain⟨pa,p,g,h,i,k,m,o,c,d⟩:=j;exact⟨pa,p,g,h,i,k.later a,m.later a,o,⟨c.1.trans (a.mono c.1.size),c.2⟩,λb e=>⟨(a.block b (aF.1 (d b e).1).1).trans (d b e).1,(d b e).2⟩⟩
theorem iL.below(a:iL n l room w0 R H ia ib sa sb s t W):aj w0 W:=by
 obtain⟨_,_,_,_,_,_,_,_,a,_⟩:=a;exact a.1
theorem iL.less(f:iL n l room w0 R H ia ib sa sb s t W){R':Nat->Prop}(j:∀q,R' q->R q){ja jb:Nat}(o:ia<=ja/\ib<=jb):iL n l room w0 R' H ja jb sa sb s t W:=by
 obtain⟨pa,k,c,d,e,a,b,g,h,i⟩:=f;exact⟨pa,k,c,d,e,⟨a.1,a.2.1,a.2.2.1,by have:=a.2.2.2.1;omega,a.2.2.2.2⟩,⟨b.1,b.2.1,b.2.2.1,by have:=b.2.2.2.1;omega,b.2.2.2.2⟩,g,h,λq m=>i q (j q m)⟩
theorem iL.box(i:iL n l room w0 (λ_=>False) H ia ib sa sb s t W){a:World}(c:aj W a){o:Obj}(k:a.heap[W.heap.size]?=some o):iL n l room w0 (λq=>q=W.heap.size) (λ_=>o) ia ib sa sb s t a:=by
 obtain⟨pa,m,f,g,h,d,e,j,b,_⟩:=i;refine⟨pa,m,f,g,h,d.later c,e.later c,j,⟨b.1.trans (c.mono b.1.size),b.2⟩,λq p=>?_⟩;subst p;exact⟨k,d.1.nobody (am _),e.1.nobody (am _)⟩
theorem FD{pa k:jY}{h e m:fT}{r:Sy}{g:World}{a c:Nat}(f:p9 n l room w0.heap.size ia pa s h W)(o:p9 n l room w0.heap.size ib k t e W)(u:∀q,h.ow q≠0->e.ow q=0)(v:aj w0 W/\lP n l=0)(A:∀q,R q->W.heap[q]?=some (H q)/\h.ow q=0/\e.ow q=0)(E:bj pa r m g)(p:fI a c h m W g){j:Nat}(M:ia*402+c<=j*402/\ia*201+a<=j*201)(C:pF r):iL n l room w0 R H j ib pa.b k.b r t g:=by
 have B:=rU f.1 p f.2.2.2.2;obtain⟨I,J,K,L⟩:=f.2.2.2.1;have z:bj k t e g:=o.1.kept p.1 λq d=>u q d;obtain⟨D,w,N,O,P,Q⟩:=p;refine⟨pa,k,m,e,⟨rfl,rfl⟩,⟨E,f.2.1,C,by omega,f.2.2.2.2⟩,⟨z,o.2⟩,λq d=>?_,⟨v.1.trans B,v.2⟩,λq d=>?_⟩
 ·by_cases i:q<W.heap.size
  ·rw[w q i]at d;exact u q d
  ·exact o.1.nobody (by omega)
 ·obtain⟨x,y,G⟩:=A q d;have i:=(aF.1 x).1;exact⟨(D.block q i λF=>F y).trans x,(w q i).trans y,G⟩
theorem iL.doA(k:iL n l room w0 R H ia ib sa sb s t W)(D:ia<=110){m:Nat}(c:Hn m)(g:FI m w0.heap.size w0 c)(r:(ay (m+1) c.2).length<=2097152):ak 8 #[aC sa,.agg #[ab c.1.1,ab c.1.2.1,ab c.1.2.2,ab c.2.1.1,ab c.2.1.2.1,af c.2.1.2.2,ae c.2.2.1.1 c.2.2.2.length c.2.2.1.2]] W λe w'=>e=.returned (ab (s.do n l room c.1.1 c.1.2.1 c.1.2.2 (m+1) c.2).2)/\Hid (iL n l room w0 R H (ia+1) ib sa sb (s.do n l room c.1.1 c.1.2.1 c.1.2.2 (m+1) c.2).1 t w'):=by
 obtain⟨pa,G,B,C,⟨rfl,rfl⟩,d,o,p,f,q⟩:=k;have i:=g.2.below f.1;have E:=d.2.2.2.2;have F:=f.1.size;obtain⟨w,x,y,z⟩:=d.2.2.2.1;refine(d.1.do (kd:=c.1.1) (a:=c.1.2.1) (b:=c.1.2.2) ⟨g.1.2.1,g.1.2.2⟩ c.2 ⟨i.mono f.1.size,(In.offBelow i).mono λv J K=>?_⟩ r (by omega) (by omega) (by omega) (by omega)).mono ?_
 ·have:=(d.1.low v (by omega)).1;omega
 ·rintro e w' ⟨I,rfl,H⟩;obtain⟨h,A,j,u⟩:=H;rw[d.do_eq f.2]at h j;exact⟨by rw[h],FD d o p f q j u (by omega) (d.2.2.1.do _ _ _ _ _)⟩
end
theorem Cn(n:Nat)(l:List (Bh (n+1)))(F:Option Addr)(z:Nat)(room:Int)(A:Nat)(f:List (Sk A))(sa:Option Addr)(sc:Nat)(w W:World)(Y:gh (n+1) W.heap.size W F l)(Z:l.length<=z)(ad:z<=maxLen)(X:kA (n+1) l=true->(ay (n+6) (bW n l)).length<=2097152)(af:p8 w.heap.size w 5 (Pe A) (IS A w.heap.size w) sa f)(ag:∀c∈f,(ay (A+1) c.2).length<=2097152)(au:f.length<=1048576)(M:aj w W):ak 6 #[ae F l.length z,ab room,ae sa f.length sc] W λe w'=>(e=.returned (.pointer none)/\Hid ((lw n l room≠0\/4<f.length)/\aj W w'))\/∃j,e=.returned (aC j)/\Hid (¬(lw n l room≠0\/4<f.length)/\aj W w'/\∃p d,p.b=j/\p9 n l room W.heap.size 4 p (yG n l room f) d w'):=by
 obtain⟨i,J⟩:=JI f (⟨#[]⟩,((0,0,⟨#[]⟩),(none,0),[]));have aa:(maxLen:Nat)=9223372036854775807:=rfl;have al:=M.size;have v:∀{W:World}{m o:Nat}{g:Value},aj w W->m<w.heap.size->w.cell? ⟨m,o,none⟩=some g->W.cell? ⟨m,o,none⟩=some g:=λ{W m o g} k r t=>(k.cell (p:=⟨m,o,none⟩) r).trans t;refine(CV F l.length z room sa f.length sc (λa=>(i a).1) (λa=>(i a).2.1.2.2) (λa=>(i a).2.1.1) (λa=>(i a).2.1.2.1) (λa=>(i a).2.2.1.1) (λa=>(i a).2.2.2.length) (λa=>(i a).2.2.1.2) W (λg G h=>NS n l room W g G h) (λj a h=>(f.length<=4/\lw n l room=0)/\aj W h/\∃p d,p.b=j/\p9 n l room W.heap.size a p (yG n l room (f.take a)) d h) (λg h=>(g=.pointer none/\(lw n l room≠0\/4<f.length)/\aj W h)\/∃j,g=aC j/\¬(lw n l room≠0\/4<f.length)/\aj W h/\∃p d,p.b=j/\p9 n l room W.heap.size 4 p (yG n l room f) d h) (by omega) (Ce n l F z room W Y Z ad X) (λg G h s P=>?_) (λg h s B=>?_) (λj a h K I=>?_) λj h I=>?_).mono ?_
 ·exact ah ⟨rfl,by rw[s.1]at P;exact P,s.2.1⟩
 ·obtain⟨p,d,rfl,Q,⟨an,R,ao,av⟩,ap,aw,ax,aq⟩:=s.2.2.2 rfl;exact⟨p.b,rfl,⟨B,s.1.symm⟩,s.2.1,p,d,rfl,Q,⟨ap,aq⟩,λ_ t=>(by cases t),⟨by omega,by rw[R];exact aH _,by omega,by omega⟩,by omega⟩
 ·obtain⟨B,k,p,d,rfl,x,y,E,am,D⟩:=I;obtain⟨m,o,V,r,u,L⟩:=Dy af (J a K);have q:=M.trans (k.mono al);refine⟨m,o,⟨V,v q r (u 0 _ rfl),v q r (u 1 _ rfl),v q r (u 2 _ rfl),v q r (u 3 _ rfl),v q r (u 4 _ rfl)⟩,λar C=>?_⟩;have N:=q.trans (C.mono q.size);refine((x.later C).start (i a).1 (az L.1 (dA aa)) (i a).2 ((L.2.below N).mono N.size) (ag _ (aJ (J a K))) (by omega) (by omega)).mono ?_;rintro e w' ⟨g,G,rfl,H⟩;obtain⟨_,U,S,T⟩:=H.out;have O:yG n l room (f.take (a+1))=((yG n l room (f.take a)).start p.n p.prog p.room (i a).1 (A+1) (i a).2).1:=by
   rw[y.1,vT y.2];unfold yG;rw[du,J a K,Option.toList_some,jj];rfl
  rw[<-O]at S;refine⟨g,G,rfl,B,(k.trans (C.mono k.size)).trans (rU (x.later C) T D),p,U,rfl,S,y,?_,by obtain⟨_,_,Q,an,R,ao⟩:=T;omega,D⟩;rw[O];exact E.start _ _ _
 ·obtain⟨B,k,p,d,rfl,x,y,E,am,D⟩:=I;rw[List.take_length]at x E;exact ai ⟨_,rfl,by omega,k,p,d,rfl,x,y,E,by omega,D⟩
 ·rintro e w' ⟨g,rfl,H⟩;rcases H with⟨rfl,k⟩|⟨j,rfl,t⟩
  ·exact ah ⟨rfl,k⟩
  ·exact ai ⟨j,rfl,t⟩
theorem K6{n:Nat}{l:List (Bh (n+1))}{room:Int}{w0 W d:World}{i:Nat}{pa f:jY}{s t:Sy}{h e:fT}(H:Nat->Obj)(q:lP n l=0)(j:p9 n l room w0.heap.size i pa s h W)(a:p9 n l room W.heap.size i f t e d)(k:aj w0 W)(o:aj W d):iL n l room w0 (λ_=>False) H i i pa.b f.b s t d:=by
 have m:=k.size;refine⟨pa,f,h,e,⟨rfl,rfl⟩,j.later o,⟨a.1,a.2.1,a.2.2.1,a.2.2.2.1,az m a.2.2.2.2⟩,λc g=>?_,⟨k.trans (o.mono m),q⟩,λc g=>g.elim⟩;by_cases p:e.ow c=0
 ·exact p
 ·have r:=(a.1.low c p).1;have u:=(j.1.low c g).2;have v:=a.2.2.2.2;omega
theorem vV(h:Nat)(f:Option Nat)(a:Int)(g:Value)(b:Bool)(w:World)(P:World->Prop)(c:Hid (w.cell? ⟨h,3,none⟩=some (.map f)))(d:Hid ((Instr.lookup 67 (.map f) (ab a) true).run Tryz.prog w=.ok (.tuple #[g,.bool b]) w))(k:Hid (b=true->ak 23 #[g] w λe w'=>e=.returned (.tuple #[])/\Hid (P w')))(j:Hid (b=false->P w)):ak 7 #[aC h,ab a] w λe w'=>e=.returned (.tuple #[])/\Hid (P w'):=by
 have m:=d.out;have l:=c.out;clear d c;go_enter func7,ntmps7;cases b with
 | true=>
  go_wp2_with fail;refine(k (by simp)).mono ?_;rintro e n ⟨rfl,i⟩;go_wp2_with fail;exact dh (v:=.tuple #[]) (by simp[results]) rfl ⟨rfl,i⟩
 | false=>
  go_wp2_with fail;exact dh (v:=.tuple #[]) (by simp[results]) rfl ⟨rfl,j (by simp)⟩
theorem P1.tidyE{a d:Nat}{name:ByteArray}{room:Int}{cs:Tc}{c:List Tc}{k:Nat}{M:Nat->Prop}{w:World}(m:P1 a d name room cs c k M w)(r:k<=50000)(o:c.length<=999)(D:a<=w.heap.size):ak 23 #[aC d] w λe w'=>e=.returned (.tuple #[])/\Hid (bT M w w'/\P1 a d name room cs c k (mM M w w') w'):=by
 obtain⟨l,v,t,I,u,G,H,E,F,A,n,⟨rfl,rfl⟩,f,p⟩:=m;refine(n.tidy (N:=12) r (by simpa using o) f).mono ?_;rintro e w' ⟨rfl,z,x,y,s,B,q,j⟩;obtain⟨g,C⟩:=j;refine⟨rfl,g,l,v,t,z,u,x,y,s,_,_,q.inside (N:=12),⟨rfl,rfl⟩,az f g.size,λb h=>⟨?_,h.2⟩⟩;rcases h.1 with i|i
 ·exact(p b i).1
 ·omega
theorem bj.tidy{p:jY}{s:Sy}{d:fT}{w:World}(c:bj p s d w)(a:Int)(A:d.k<=47000):ak 7 #[aC p.b,ab a] w λe w'=>e=.returned (.tuple #[])/\Hid (∃i,bj p s i w'/\fI 0 0 d i w w'):=by
 have f:=c.look a true;rw[if_pos rfl]at f;cases hp:cU d.l a with
 | none=>
  rw[hp]at f;exact vV p.b d.po a _ false w _ c.cells.2.2.2 f (λh=>by cases h) λ_=>⟨d,c,(dS.later d (ao _ _)).un⟩
 | some v=>
  rw[hp]at f;obtain⟨B,z,y,j,q,r⟩:=c.ps a v hp;refine vV p.b d.po a _ true w _ c.cells.2.2.2 f (λ_=>?_) λh=>by cases h
  refine(q.tidyE (by omega) (by omega) c.lo.1).mono ?_;rintro e w' ⟨rfl,o⟩;obtain⟨g,u⟩:=o;have t:bt (λm=>d.ow m=a) w w':=⟨g.os,g.tape,g.output,g.size,g.block⟩;obtain⟨n,x⟩:=c.turnP hp j t (λm h=>h.1) (am d.k) u r;rw[rM c.keys.2.1 j]at n;exact⟨rfl,_,n,x.mono (am _) (by omega)⟩
theorem iL.tidyA{n:Nat}{l:List (Bh (n+1))}{room:Int}{w0 W:World}{R:Nat->Prop}{H:Nat->Obj}{c d sa f:Nat}{s t:Sy}(g:iL n l room w0 R H c d sa f s t W)(y:c<=110)(a:Int):ak 7 #[aC sa,ab a] W λe w'=>e=.returned (.tuple #[])/\Hid (iL n l room w0 R H c d sa f s t w'):=by
 obtain⟨pa,z,w,x,⟨rfl,rfl⟩,b,h,i,j,k⟩:=g;obtain⟨p,q,r,u⟩:=b.2.2.2.1;refine(b.1.tidy a (by omega)).mono ?_;rintro e w' ⟨rfl,H⟩;obtain⟨v,m,o⟩:=H;exact⟨rfl,FD b h i j k m o (by omega) b.2.2.1⟩
theorem FB(a:Nat)(W:World):(binOp .eql 27 (aC a) (.pointer none)).run Tryz.prog W=.ok (.bool false) W:=by kernel_rfl
theorem Ie(W:World):(binOp .eql 27 (.pointer none) (.pointer none)).run Tryz.prog W=.ok (.bool true) W:=by kernel_rfl
def Pp(pa d:Nat)(o:Option Addr->Nat->Nat->World->Prop)(W:World):Prop:=
 ak 10 #[aC pa] W λa p=>∃f h b,a=.returned (ae f b h)/\Hid (ak 10 #[aC d] p λa r=>∃g i,a=.returned (ae g b i)/\Hid (ak 9 #[ae f b h,ae g b i] r λa s=>a=.returned (.bool true)/\Hid (ak 12 #[aC pa] s λa t=>∃k,a=.returned k/\Hid (ak 12 #[aC d] t λa u=>∃j,a=.returned j/\Hid (ak 11 #[k,j] u λa v=>a=.returned (.bool true)/\Hid (ak 14 #[aC pa] v λa w=>∃l,a=.returned l/\Hid (ak 14 #[aC d] w λa x=>∃m,a=.returned m/\Hid (ak 13 #[l,m] x λa y=>a=.returned (.bool true)/\Hid (ak 12 #[aC pa] y λa q=>∃e n c,a=.returned (ae e n c)/\n<=12/\Hid (o e n c q))))))))))
def Pq(pa t:Nat)(p:Int)(K:World->Prop)(W:World):Prop:=
 ak 15 #[aC pa,ab p] W λa k=>∃i y0 y1 y2 ya yl yc e b f j,a=.returned (.tuple #[af i,.agg #[ab y0,ab y1,af y2,ae ya yl yc],ae e b f,ab j])/\Hid (aj W k/\∀c,aj k c->ak 15 #[aC t,ab p] c λa l=>∃m n o q s r g h,a=.returned (.tuple #[af i,.agg #[ab m,ab n,af o,ae q s r],ae g b h,ab j])/\Hid (aj c l/\∀d,aj l d->ak 16 #[.agg #[ab y0,ab y1,af y2,ae ya yl yc],.agg #[ab m,ab n,af o,ae q s r]] d λa u=>a=.returned (.bool true)/\Hid (ak 17 #[ae e b f,ae g b h] u λa v=>a=.returned (.bool true)/\Hid (K v))))
theorem Iq(aI:Option Addr)(aK aJ:Nat)(room:Int)(sa:Option Addr)(sl sc:Nat)(bn:Option Addr)(f bT:Nat)(be:Option Addr)(D ac:Nat)(bk:Option Addr)(ax bH:Nat)(N J L O P:Nat->Int)(Q:Nat->ByteArray)(R:Nat->Option Addr)(T S:Nat->Nat)(v:Nat->Int)(w:World)(bb:World->Prop)(bc:Nat->World->Prop)(K:Nat->Nat->Nat->World->Prop)(M:Bool->Bool->Nat->Nat->Nat->Nat->World->Prop)(ar:Nat->Nat->Option Addr->Nat->Nat->Nat->World->Prop)(b9:f<=1048576)(b0:D<=9223372036854775807)(ba:Hid (ak 5 #[] w λe w'=>e=.returned (.bool true)/\aj w w'))(HB:Hid (∀W,aj w W->ak 6 #[ae aI aK aJ,ab room,ae sa sl sc] W λe w'=>(e=.returned (.pointer none)/\Hid (bb w'))\/∃pa,e=.returned (aC pa)/\Hid (bc pa w')))(aM:Hid (∀W,bb W->ak 6 #[ae aI aK aJ,ab room,ae sa sl sc] W λe w'=>e=.returned (.pointer none)/\Hid (aj w w')))(aN:Hid (∀pa W,bc pa W->ak 6 #[ae aI aK aJ,ab room,ae sa sl sc] W λe w'=>∃d,e=.returned (aC d)/\Hid (K pa d 0 w')))(an:Hid (∀pa d j W,K pa d j W->aj w W))(aq:Hid (∀pa d j W,j<f->f<=80->K pa d j W->∃g o,(bn=some ⟨g,o,none⟩/\W.cell? ⟨g,o+j*7,none⟩=some (ab (N j))/\W.cell? ⟨g,o+j*7+1,none⟩=some (ab (J j))/\W.cell? ⟨g,o+j*7+2,none⟩=some (ab (L j))/\W.cell? ⟨g,o+j*7+3,none⟩=some (ab (O j))/\W.cell? ⟨g,o+j*7+4,none⟩=some (ab (P j))/\W.cell? ⟨g,o+j*7+5,none⟩=some (af (Q j))/\W.cell? ⟨g,o+j*7+6,none⟩=some (ae (R j) (T j) (S j)))/\Hid (∀aQ,aj W aQ->aQ.heap[W.heap.size]?=some (.cells #[ab (N j),ab (J j),ab (L j),ab (O j),ab (P j),af (Q j),ae (R j) (T j) (S j)] 33)->M false false pa d j W.heap.size aQ)))(s:Hid (∀x y pa d j r W,M x y pa d j r W->aj w W/\W.heap[r]?=some (.cells #[ab (N j),ab (J j),ab (L j),ab (O j),ab (P j),af (Q j),ae (R j) (T j) (S j)] 33)))(B:Hid (∀x y pa d j r W bd,M x y pa d j r W->aj W bd->M x y pa d j r bd))(A:Hid (∀W k,aj w W->k<D->∃g o a,be=some ⟨g,o,none⟩/\W.cell? ⟨g,o+k,none⟩=some (ab a)))(C:Hid (∀W k,aj w W->k<ax->∃g o a,bk=some ⟨g,o,none⟩/\W.cell? ⟨g,o+k,none⟩=some (ab a)))(h:Hid (∀pa d j r W a,j<f->f<=80->M false false pa d j r W->ak 7 #[aC d,ab a] W λe w'=>e=.returned (.tuple #[])/\Hid (M false false pa d j r w')))(t:Hid (∀y pa d j r W,j<f->f<=80->M false y pa d j r W->ak 8 #[aC pa,.agg #[ab (N j),ab (J j),ab (L j),ab (O j),ab (P j),af (Q j),ae (R j) (T j) (S j)]] W λe w'=>e=.returned (ab (v j))/\Hid (M true y pa d j r w')))(u:Hid (∀x pa d j r W,j<f->f<=80->M x false pa d j r W->ak 8 #[aC d,.agg #[ab (N j),ab (J j),ab (L j),ab (O j),ab (P j),af (Q j),ae (R j) (T j) (S j)]] W λe w'=>e=.returned (ab (v j))/\Hid (M x true pa d j r w')))(I:Hid (∀pa d j r W,M true true pa d j r W->K pa d (j+1) W))(al:Hid (∀pa d W,f<=80->K pa d f W->Pp pa d (λa n c W=>ar pa d a n c 0 W) W))(Y:Hid (∀pa d a n c j W,ar pa d a n c j W->aj w W))(Z:Hid (∀pa d a n c j W,f<=80->j<n->ar pa d a n c j W->∃g o p,(a=some ⟨g,o,none⟩/\W.cell? ⟨g,o+j,none⟩=some (ab p))/\Hid (Pq pa d p (λW=>ar pa d a n c (j+1) W) W))):ak 3 #[ae aI aK aJ,ab room,ae sa sl sc,ae bn f bT,ae be D ac,ae bk ax bH] w λe w'=>e=.returned (.bool true)/\aj w w':=by
 go_enter func3,ntmps3;go_wp2_with fail;refine ba.mono ?_;rintro e cn ⟨rfl,aV⟩;have H:=ap aV;clear ba aV;go_wp2_with fail;refine(HB _ H).mono ?_;clear HB H;rintro e cs (⟨rfl,aE⟩|⟨pa,rfl,a0⟩)
 ·have i:=ap (aM _ aE);have b4:=Ie;clear aM aN an aq s B A C h t u I al Y Z aE;go_wp2_with fail;refine i.mono ?_;rintro e bO ⟨rfl,X⟩;clear i;go_wp2_with fail
  go_ret
  exact⟨rfl,X⟩
 have i:=ap (aN _ _ a0);clear aM aN a0;go_wp2_with fail;refine i.mono ?_;rintro e bO ⟨d,rfl,X⟩;clear i;have b5:=FB pa;have b6:=FB d;by_cases F:f<=80;rotate_left
 ·have bD:(80:Int)<(f:Int):=by omega
  have aE:=ap (an _ _ _ _ X);clear aq s B A C h t u I al Y Z X an;go_wp2_with fail
  go_ret
  exact⟨rfl,aE⟩
 have bD:¬(80:Int)<(f:Int):=by omega
 go_wp2_with fail;go_loopw [15,16,17,18,57] (λ_ _ _ _ q wr=>∃(j:Nat),j<=f/\q=ab j/\Hid (K pa d j wr)) (λ_ _ _ _ q _=>f-(intOf q).toNat)
 case atStart=>exact⟨0,aH _,rfl,X⟩
 case round=>
 clear X;obtain⟨j,bE,rfl,z⟩:=hrel;by_cases E:j<f
 ·obtain⟨g,o,⟨rfl,aR,bf,bg,bA,bB,aS,bC⟩,a7⟩:=aq.out pa d j _ E F z;have bI:(0:Int)<=(j:Int):=by omega
  have bJ:(j:Int)<(f:Int):=by omega
  clear aq z al Y Z an;go_upto_region 9 with fail;generalize aU:World.alloc _ _=bP;have a9:=ap (a7 bP (by rw[<-aU];exact(ao _ _).alloc (am _) _) (by rw[<-aU];exact aA _ _));clear aU a7 aR bf bg bA bB aS bC;generalize wr.heap.size=r at*;go_wp2_with fail;go_loopw [17,18,64] (λ_ _ q bR=>∃(k:Nat),k<=D/\q=ab k/\Hid (M false false pa d j r bR)) (λ_ _ q _=>D-(intOf q).toNat)
  case atStart=>exact⟨0,aH _,rfl,a9⟩
  case round=>
  clear a9;obtain⟨k,b1,rfl,i⟩:=hrel;by_cases bG:k<D
  ·obtain⟨bY,ch,a,rfl,bX⟩:=A.out _ k (s _ _ _ _ _ _ _ i).1 bG;have ca:(0:Int)<=(k:Int):=by omega
   have cb:(k:Int)<(D:Int):=by omega
   by_cases bi:a=(j:Int)
   ·subst bi;have bz:((j:Int)==(j:Int))=true:=by simp
    by_cases bF:k<ax
    ·obtain⟨bZ,ci,b,rfl,f0⟩:=C.out _ k (s _ _ _ _ _ _ _ i).1 bF;have bK:(k:Int)<(ax:Int):=by omega
     have bv:=ap (h _ _ _ _ _ b E F i);clear h i t u I s B A C;go_wp2_with fail;refine bv.mono ?_;rintro e az ⟨rfl,G⟩;go_wp2_with fail;go_roundw
     case rel=>exact⟨k+1,by omega,by go_num,G⟩
     case measure=>simp[intOf];omega
    ·have bK:¬(k:Int)<(ax:Int):=by omega
     clear h t u I s B A C;go_wp2_with fail;go_roundw
     case rel=>exact⟨k+1,by omega,by go_num,i⟩
     case measure=>simp[intOf];omega
   ·have bz:(a==(j:Int))=false:=by simpa using bi
    clear h t u I s B A C;go_wp2_with fail;go_roundw
    case rel=>exact⟨k+1,by omega,by go_num,i⟩
    case measure=>simp[intOf];omega
  obtain rfl:k=D:=by omega
  clear A C h;go_upto_region 15 with fail;have a8:Hid (aj wr wr.drew):=(ao _ _).drew;have aG:=ap (B _ _ _ _ _ _ _ _ i a8);have aD:=ap (t false pa d j r _ E F aG);have H:=ap (u false pa d j r _ E F aG);have a3:=ap (λW (au:M false true pa d j r W)=>t true pa d j r W E F au);have a5:=ap (λW (au:M true false pa d j r W)=>u true pa d j r W E F au);have ai:Hid (∀x y W,M x y pa d j r W->W.cell? ⟨r,0,none⟩=some (Value.int .i64 (N j))/\W.cell? ⟨r,1,none⟩=some (Value.int .i64 (J j))/\W.cell? ⟨r,2,none⟩=some (Value.int .i64 (L j))/\W.cell? ⟨r,3,none⟩=some (Value.int .i64 (O j))/\W.cell? ⟨r,4,none⟩=some (Value.int .i64 (P j))/\W.cell? ⟨r,5,none⟩=some (Value.string (Q j))/\W.cell? ⟨r,6,none⟩=some (Value.slice (R j) (T j) (S j))):=λx y W au=>by
   have U:=(s _ _ _ _ _ _ _ au).2;exact⟨ag U 0,ag U 1,ag U 2,ag U 3,ag U 4,ag U 5,ag U 6⟩
  have b8:(v j==v j)=true:=by simp
  clear t u s B i a8;go_cut [57,91]from 57 to 92 (λbL bM bS=>bL=ab j/\bM=.bool false/\Hid (M true true pa d j r bS))
  case first=>
   go_region_held3 (λW=>W.cell? ⟨r,0,none⟩=some (Value.int .i64 (N j))/\W.cell? ⟨r,1,none⟩=some (Value.int .i64 (J j))/\W.cell? ⟨r,2,none⟩=some (Value.int .i64 (L j))/\W.cell? ⟨r,3,none⟩=some (Value.int .i64 (O j))/\W.cell? ⟨r,4,none⟩=some (Value.int .i64 (P j))/\W.cell? ⟨r,5,none⟩=some (Value.string (Q j))/\W.cell? ⟨r,6,none⟩=some (Value.slice (R j) (T j) (S j))) (first|exact ai _ _ _ aG|exact ai _ _ _ a4|exact ai _ _ _ a6|exact ai _ _ _ m) ((go_at_call 8;first
    | (refine aD.mono ?_;rintro e aa ⟨rfl,a4⟩;clear aD H)
    | (refine H.mono ?_;rintro e aa ⟨rfl,a6⟩;clear aD H)
    | (refine(a5 _ a4).mono ?_;rintro e ad ⟨rfl,m⟩)
    | (refine(a3 _ a6).mono ?_;rintro e ad ⟨rfl,m⟩)))
   all_goals
    go_wp2_with fail;go_meet
    case rel=>exact⟨rfl,rfl,m⟩
  case rest=>
  obtain⟨rfl,rfl,bw⟩:=hcut;clear aD H a3 a5 ai aG;go_wp2_with fail;go_roundw
  case rel=>exact⟨j+1,by omega,by go_num,I _ _ _ _ _ bw⟩
  case measure=>simp[intOf];omega
 obtain rfl:j=f:=by omega
 have aO:=ap (al _ _ _ F z);unfold Pp at aO;clear aq s B A C h t u I al z an;go_wp2_with fail;refine aO.mono ?_;rintro e az ⟨bV,bf,bU,rfl,G⟩;clear aO;go_wp2_with fail;refine G.mono ?_;rintro e aa ⟨bW,bg,rfl,a1⟩;clear G;go_wp2_with fail;refine a1.mono ?_;rintro e ad ⟨rfl,m⟩;clear a1;go_wp2_with fail;refine m.mono ?_;rintro e l ⟨cj,rfl,a2⟩;clear m;go_wp2_with fail;refine a2.mono ?_;rintro e bQ ⟨ck,rfl,ah⟩;clear a2;go_wp2_with fail;refine ah.mono ?_;rintro e bN ⟨rfl,aB⟩;clear ah;go_wp2_with fail;refine aB.mono ?_;rintro e co ⟨cl,rfl,aW⟩;clear aB;go_wp2_with fail;refine aW.mono ?_;rintro e cp ⟨cm,rfl,aX⟩;clear aW;go_wp2_with fail;refine aX.mono ?_;rintro e cq ⟨rfl,aY⟩;clear aX;go_wp2_with fail;refine aY.mono ?_;rintro e cr ⟨bx,n,aS,rfl,b2,aZ⟩;clear aY;go_wp2_with fail;go_loopw [20,21,22,23,24,25,26,27,28,118] (λ_ _ _ _ _ _ _ _ _ q wr=>∃(j:Nat),j<=n/\q=ab j/\Hid (ar pa d bx n aS j wr)) (λ_ _ _ _ _ _ _ _ _ q _=>n-(intOf q).toNat)
 case atStart=>exact⟨0,aH _,rfl,aZ⟩
 case round=>
 clear aZ;obtain⟨j,bE,rfl,z⟩:=hrel;by_cases E:j<n;rotate_left
 ·obtain rfl:j=n:=by omega
  have bu:=ap (Y _ _ _ _ _ _ _ z);clear Z z Y;go_wp2_with fail
  go_ret
  exact⟨rfl,bu⟩
 obtain⟨g,o,p,⟨rfl,aR⟩,h⟩:=Z.out _ _ _ _ _ _ _ F E z;have bI:(0:Int)<=(j:Int):=by omega
 have bJ:(j:Int)<(n:Int):=by omega
 unfold Pq at h;clear Z z Y;go_wp2_with fail;refine h.mono ?_;rintro e az ⟨bl,y0,y1,y2,ya,yl,yc,cc,ce,cd,bm,rfl,G⟩;clear h aR;go_upto_region 24 with fail;generalize V:World.alloc _ _=aa;have bh:aj az aa:=by rw[<-V];exact(ao _ _).alloc (am _) _
 have aP:Hid (aa.heap[az.heap.size]?=some (.cells #[ab y0,ab y1,af y2,ae ya yl yc] 31)):=by
  rw[<-V];exact aA _ _
 have h:=ap (G.2 aa bh);clear V bh G;generalize az.heap.size=ay at*;go_wp2_with fail;refine h.mono ?_;rintro e ad ⟨bo,bp,bq,br,bt,bs,cf,cg,rfl,m⟩;clear h;go_upto_region 25 with fail;generalize V:World.alloc _ _=l;have aT:aj ad l:=by rw[<-V];exact(ao _ _).alloc (am _) _
 have aw:l.heap[ad.heap.size]?=some (.cells #[ab bo,ab bp,af bq,ae br bt bs] 31):=by
  rw[<-V];exact aA _ _
 have bj:=m.1.trans (aT.mono m.1.size);have av:=(bj.block ay (aF.1 aP).1).trans aP;have h:=ap (m.2 l aT);clear V aT m bj aP;generalize ad.heap.size=aL at*;have d0:l.cell? ⟨ay,0,none⟩=some (ab y0):=ag av 0;have d1:l.cell? ⟨ay,1,none⟩=some (ab y1):=ag av 1;have d2:l.cell? ⟨ay,2,none⟩=some (af y2):=ag av 2;have d3:l.cell? ⟨ay,3,none⟩=some (ae ya yl yc):=ag av 3;have f0:l.cell? ⟨aL,0,none⟩=some (ab bo):=ag aw 0;have f1:l.cell? ⟨aL,1,none⟩=some (ab bp):=ag aw 1;have f2:l.cell? ⟨aL,2,none⟩=some (af bq):=ag aw 2;have f3:l.cell? ⟨aL,3,none⟩=some (ae br bt bs):=ag aw 3;have b3:(bl.toList==bl.toList)=true:=by simp
 have b7:(bm==bm)=true:=by simp
 clear av aw;go_wp2_with fail;refine h.mono ?_;rintro e bQ ⟨rfl,ah⟩;clear h d0 d1 d2 d3 f0 f1 f2 f3;go_wp2_with fail;refine ah.mono ?_;rintro e bN ⟨rfl,aB⟩;clear ah;go_wp2_with fail;go_roundw
 case rel=>exact⟨j+1,by omega,by go_num,aB⟩
 case measure=>simp[intOf];omega
theorem EV:(l:List (Int×Int×Int×Tc))->∀{s:Sy},C5 s l=true->∀{j:Nat}{e:Int×Int×Int×Tc},l[j]?=some e->(Jk (yW s (l.take j)) e).2=0
 | [],_,_,_,_,h=>by simp at h
 | a::l,s,h,0,e,he=>by
  obtain rfl:a=e:=by simpa using he
  simp only[C5,aG,cv]at h;exact h.1
 | a::l,s,h,j+1,e,he=>by
  simp only[C5,aG]at h;exact EV l h.2 (by simpa using he)
theorem Jl(s:Sy){l:List (Int×Int×Int×Tc)}{j:Nat}{e:Int×Int×Int×Tc}(a:l[j]?=some e):yW s (l.take (j+1))=(Jk (yW s (l.take j)) e).1:=by
 rw[du,a];simp[yW]
theorem Cs{w0:World}{V:Nat->Prop}{a:World}{s:Sy}{i h:Nat}{W:World}(v:CL w0 V a s i h W)(l:List (Int×Int×Int×Tc))(C:C5 s l=true)(N:i+l.length<=100)(g c:Nat)(t:V g)(k:Nat->Nat)(x:(j:Nat)->Tm (k j+1))(E:∀j e,l[j]?=some e->(In a.heap.size a (k j+1) (x j)/\ch V (k j+1) (x j))/\(ay (k j+1) (x j)).length<=2097152/\(ax (k j+1) (x j) 13 e.2.2.2=true\/e.1≠3)/\I2 (e.2.1,e.2.2.1))(B:∀j e,l[j]?=some e->a.cell? ⟨g,j*7,none⟩=some (ab e.1)/\a.cell? ⟨g,j*7+1,none⟩=some (ab e.2.1)/\a.cell? ⟨g,j*7+2,none⟩=some (ab e.2.2.1)/\a.cell? ⟨g,j*7+3,none⟩=some (ab (x j).1.1)/\a.cell? ⟨g,j*7+4,none⟩=some (ab (x j).1.2.1)/\a.cell? ⟨g,j*7+5,none⟩=some (af (x j).1.2.2)/\a.cell? ⟨g,j*7+6,none⟩=some (.slice (x j).2.1.1 (x j).2.2.length (x j).2.1.2)):ak 21 #[aC h,ae (some ⟨g,0,none⟩) l.length c] W λe w'=>e=.returned (.bool true)/\Hid (CL w0 V a (yW s l) (i+l.length) h w'):=by
 obtain⟨f,z⟩:∃f:Nat->Int×Int×Int×Tc,∀j,j<l.length->l[j]?=some (f j):=⟨λj=>l.getD j (0,0,0,tA),λj p=>by
  simp only[mR,aI p]
  rfl⟩
 have D:yW s (l.take l.length)=yW s l:=by rw[List.take_length]
 have:=Ik h g l.length c (λj=>(f j).1) (λj=>(f j).2.1) (λj=>(f j).2.2.1) (λj=>(x j).1.1) (λj=>(x j).1.2.1) (λj=>(x j).1.2.2) (λj=>(x j).2.1.1) (λj=>(x j).2.2.length) (λj=>(x j).2.1.2) W (λj n=>CL w0 V a (yW s (l.take j)) (i+j) h n) (by omega) v (λj n p r=>?_)
 ·rw[<-D];exact this
 ·have m:=z j p;obtain⟨G,H,I,J⟩:=E j _ m;have b:=B j _ m;have d:∀{o:Nat}{q:Value},a.cell? ⟨g,o,none⟩=some q->n.cell? ⟨g,o,none⟩=some q:=λ{o q} F=>by
   obtain⟨O,M,_,_,_,_,_,w,y⟩:=r;rw[y.cell o (w g t).1 λK=>K t];exact F
  refine⟨⟨d b.1,d b.2.1,d b.2.2.1,d b.2.2.2.1,d b.2.2.2.2.1,d b.2.2.2.2.2.1,d b.2.2.2.2.2.2⟩,λL A=>?_⟩;refine(MY (r.later A) (by omega) (f j) J (x j) G H I).mono ?_;rintro e w' ⟨rfl,u⟩;rw[EV l C m];refine⟨rfl,?_⟩;rw[Jl s m];exact u
theorem Pg(a:Nat)(W:World):(binOp .eql 27 (aC a) (.pointer none)).run Tryz.prog W=.ok (.bool false) W:=by kernel_rfl
def II(r:Nat)(W:World):Prop:=W.heap[r]?=some (.cells #[ab 1,ab 1,ab 0,ab 0,ab 0,af ⟨#[]⟩,ae none 0 0] 33)
theorem o7{r:Nat}{w W:World}(b:II r w)(c:aj w W):W.cell? ⟨r,0,none⟩=some (Value.int .i64 1)/\W.cell? ⟨r,1,none⟩=some (Value.int .i64 1)/\W.cell? ⟨r,2,none⟩=some (Value.int .i64 0)/\W.cell? ⟨r,3,none⟩=some (Value.int .i64 0)/\W.cell? ⟨r,4,none⟩=some (Value.int .i64 0)/\W.cell? ⟨r,5,none⟩=some (Value.string ⟨#[]⟩)/\W.cell? ⟨r,6,none⟩=some (Value.slice none 0 0):=by
 have a:W.heap[r]?=some (.cells #[ab 1,ab 1,ab 0,ab 0,ab 0,af ⟨#[]⟩,ae none 0 0] 33):=(c.block r (aF.1 b).1).trans b;exact⟨ag a 0,ag a 1,ag a 2,ag a 3,ag a 4,ag a 5,ag a 6⟩
theorem Hp(w:World)(M:Option Addr->Nat->Nat->World->Prop)(aJ aK:Nat->World->Prop)(L:Nat->Nat->World->Prop)(aL:Nat->World->Prop)(aM:Option Addr->Nat->World->Prop)(aN aO aP:Nat->Int->Int->ByteArray->Option Addr->Nat->Nat->World->Prop)(ar:Hid (ak 19 #[] w λe w'=>∃a l c,e=.returned (ae a l c)/\Hid (M a l c w')))(au:Hid (∀a l c W,M a l c W->ak 18 #[ae a l c,ab 60] W λe w'=>∃b,e=.returned (.tuple #[aC b,ab 0])/\Hid (aJ b w')))(A:Hid (∀b W,aJ b W->ak 20 #[aC b,af ⟨#[99,111,117,110,116]⟩,.agg #[ab 1,ab 2,af ⟨#[]⟩,ae none 0 0]] W λe w'=>e=.returned (.tuple #[ab 1,ab 0])/\Hid (aK b w')))(aE:Hid (∀W,ak 22 #[ab 1,af ⟨#[40,117,112,32,51,41]⟩] W λe w'=>∃y0 y1 y2 ya yl yc,e=.returned (.agg #[ab 3,ab 1,ab 0,ab y0,ab y1,af y2,ae ya yl yc])/\Hid (aN W.heap.size y0 y1 y2 ya yl yc w'/\aj W w')))(aG:Hid (∀W,ak 22 #[ab 1,af ⟨#[102,111,114,107]⟩] W λe w'=>∃y0 y1 y2 ya yl yc,e=.returned (.agg #[ab 3,ab 1,ab 0,ab y0,ab y1,af y2,ae ya yl yc])/\Hid (aO W.heap.size y0 y1 y2 ya yl yc w'/\aj W w')))(aH:Hid (∀W,ak 22 #[ab 1,af ⟨#[98,97,100]⟩] W λe w'=>∃y0 y1 y2 ya yl yc,e=.returned (.agg #[ab 3,ab 1,ab 0,ab y0,ab y1,af y2,ae ya yl yc])/\Hid (aP W.heap.size y0 y1 y2 ya yl yc w'/\aj W w')))(ay:Hid (∀b r g ah B2 p h s R y0 y1 y2 ya yl yc V X Y Z ad aa,aK b p->(aj p h/\p.heap.size=r/\II r h)->(r<ah/\r<B2)->aN ah y0 y1 y2 ya yl yc h->aj h s->aO B2 V X Y Z ad aa s->aj s R->(s.heap.size<=g/\R.heap[g]?=some (.cells #[ab 3,ab 1,ab 0,ab y0,ab y1,af y2,ae ya yl yc,ab 1,ab 1,ab 0,ab 0,ab 0,af ⟨#[]⟩,ae none 0 0,ab 3,ab 1,ab 0,ab V,ab X,af Y,ae Z ad aa,ab 1,ab 1,ab 0,ab 0,ab 0,af ⟨#[]⟩,ae none 0 0,ab 2,ab 1,ab 2,ab 0,ab 0,af ⟨#[]⟩,ae none 0 0,ab 1,ab 2,ab 0,ab 0,ab 0,af ⟨#[]⟩,ae none 0 0] 33))->ak 21 #[aC b,ae (some ⟨g,0,none⟩) 6 6] R λe w'=>e=.returned (.bool true)/\Hid (L b r w'/\II r w')))(aw:Hid (∀b r W,L b r W->ak 15 #[aC b,ab 2] W λe w'=>∃nm U sa sl sc ma aW aV,e=.returned (.tuple #[af nm,.agg #[ab 1,ab 7,af U,ae sa sl sc],ae ma aW aV,ab 0])/\aj W w'))(O:Hid (∀b r W o,L b r W->aj W o->ak 12 #[aC b] o λe w'=>∃a c,e=.returned (ae a 2 c)/\Hid (aM a c w'/\aj o w')))(Q:Hid (∀a c g W o,aM a c W->aj W o->o.heap[g]?=some (.cells #[ab 1,ab 2] 3)->ak 11 #[ae a 2 c,ae (some ⟨g,0,none⟩) 2 2] o λe w'=>e=.returned (.bool true)/\aj o w'))(aB:Hid (∀b r q g B p h s y0 y1 y2 ya yl yc,L b r p->(aj p h/\p.heap.size<=q/\h.cell? ⟨q,1,none⟩=some (ab 7))->p.heap.size<=B->aP B y0 y1 y2 ya yl yc h->II r h->aj h s->(h.heap.size<=g/\s.heap[g]?=some (.cells #[ab 3,ab 1,ab 0,ab y0,ab y1,af y2,ae ya yl yc,ab 1,ab 1,ab 0,ab 0,ab 0,af ⟨#[]⟩,ae none 0 0] 33))->ak 21 #[aC b,ae (some ⟨g,0,none⟩) 2 2] s λe w'=>e=.returned (.bool true)/\Hid (aL b w'/\II r w'/\w'.cell? ⟨q,1,none⟩=some (ab 7))))(aI:Hid (∀b W,aL b W->ak 12 #[aC b] W λe w'=>∃a c,e=.returned (ae a 0 c)/\aj w w')):ak 5 #[] w λe w'=>e=.returned (.bool true)/\aj w w':=by
 go_enter func5,ntmps5;go_wp2_with fail;refine ar.mono ?_;rintro e bc ⟨a,l,c,rfl,ai⟩;have av:=ap (au _ _ _ _ ai);clear ar au ai;go_wp2_with fail;refine av.mono ?_;rintro e bf ⟨b,rfl,al⟩;have aD:=ap (A _ _ al);have bb:=Pg b;clear av A al;go_wp2_with fail;refine aD.mono ?_;rintro e t ⟨rfl,an⟩;clear aD;go_upto_region 6 with fail;generalize aU:t.alloc _=C;have x:Hid (aj t C/\t.heap.size=t.heap.size/\II t.heap.size C):=by
  rw[<-aU];exact⟨(ao _ _).alloc (am _) _,rfl,aA _ _⟩
 clear aU;have y:Hid (∀W,aj C W->aj t W/\II t.heap.size W):=λW i=>⟨x.1.trans (i.mono x.1.size),(i.block _ (aF.1 x.2.2).1).trans x.2.2⟩;generalize S:t.heap.size=r at*;have d:=ap (λW (i:aj C W)=>o7 x.2.2 i);have E:Hid (aj C C.drew):=(ao _ _).drew
 go_region_held3 (λW=>W.cell? ⟨r,0,none⟩=some (Value.int .i64 1)/\W.cell? ⟨r,1,none⟩=some (Value.int .i64 1)/\W.cell? ⟨r,2,none⟩=some (Value.int .i64 0)/\W.cell? ⟨r,3,none⟩=some (Value.int .i64 0)/\W.cell? ⟨r,4,none⟩=some (Value.int .i64 0)/\W.cell? ⟨r,5,none⟩=some (Value.string ⟨#[]⟩)/\W.cell? ⟨r,6,none⟩=some (Value.slice none 0 0)) (first|exact d _ E|exact d _ m|exact d _ I|exact d _ (I.alloc I.size _)|exact o7 n.2 (ao _ _)) ((first
  | (go_at_call 22;first
      | (refine(aE _).mono ?_;rintro e a7 ⟨y0,y1,y2,ya,yl,yc,rfl,P⟩;have m:=ap (E.trans (P.2.mono E.size));clear aE)
      | (refine(aG _).mono ?_;rintro e a8 ⟨V,X,Y,Z,ad,aa,rfl,J⟩;have I:=ap (m.trans (J.2.mono m.size));clear aG))
  | (go_at_call 21;refine(ay _ _ _ _ _ _ a7 a8 _ _ _ _ _ _ _ _ _ _ _ _ _ an ⟨by first|(rw[S];exact(y _ m).1)|exact(y _ m).1,S,(y _ m).2⟩ ⟨(aF.1 (y _ E).2).1,(aF.1 (y _ m).2).1⟩ P.1 J.2 J.1 ((ao _ _).alloc (am _) _) ⟨am _,aA _ _⟩).mono ?_;rintro e aX ⟨rfl,n⟩)))
 have ax:=ap (aw _ _ _ n.1);clear ay aw x y d E an m I P J S;go_upto_region 8 with fail;go_wp2_with fail;refine ax.mono ?_;rintro e H ⟨nm,U,sa,sl,sc,ma,aW,aV,rfl,aT⟩;have K:=ap aT;clear ax aT;go_upto_region 9 with fail;generalize T:H.alloc _=j;have f:Hid (aj aX j/\aX.heap.size<=H.heap.size/\∀W,aj j W->W.cell? ⟨H.heap.size,1,none⟩=some (ab 7)):=by
  have aQ:j.heap[H.heap.size]?=some (.cells #[ab 1,ab 7,af U,ae sa sl sc] 31):=by
   rw[<-T];exact aA _ _
  refine⟨K.trans (by rw[<-T];exact(ao _ _).alloc K.size _),K.size,λW i=>?_⟩;have a3:=(i.block _ (aF.1 aQ).1).trans aQ;exact ag a3 1
 generalize H.heap.size=q at*;clear T K;have A:Hid (∀W,aj j W->II r W):=λW i=>(i.block _ (aR (aF.1 n.2).1 f.1.size)).trans ((f.1.block _ (aF.1 n.2).1).trans n.2);have d:Hid (∀W,aj j W->(W.cell? ⟨r,0,none⟩=some (Value.int .i64 1)/\W.cell? ⟨r,1,none⟩=some (Value.int .i64 1)/\W.cell? ⟨r,2,none⟩=some (Value.int .i64 0)/\W.cell? ⟨r,3,none⟩=some (Value.int .i64 0)/\W.cell? ⟨r,4,none⟩=some (Value.int .i64 0)/\W.cell? ⟨r,5,none⟩=some (Value.string ⟨#[]⟩)/\W.cell? ⟨r,6,none⟩=some (Value.slice none 0 0))/\W.cell? ⟨q,1,none⟩=some (ab 7)):=λW i=>⟨o7 (A W i) (ao _ _),f.2.2 W i⟩;have F:Hid (aj j j.drew):=(ao _ _).drew;have z:Hid (aj j (j.alloc (.cells #[ab 1,ab 2] 3)).drew/\(j.alloc (.cells #[ab 1,ab 2] 3)).drew.heap[j.heap.size]?=some (.cells #[ab 1,ab 2] 3)):=⟨((ao _ _).alloc (am _) _).drew,aA _ _⟩
 go_region_held3 (λW=>(W.cell? ⟨r,0,none⟩=some (Value.int .i64 1)/\W.cell? ⟨r,1,none⟩=some (Value.int .i64 1)/\W.cell? ⟨r,2,none⟩=some (Value.int .i64 0)/\W.cell? ⟨r,3,none⟩=some (Value.int .i64 0)/\W.cell? ⟨r,4,none⟩=some (Value.int .i64 0)/\W.cell? ⟨r,5,none⟩=some (Value.string ⟨#[]⟩)/\W.cell? ⟨r,6,none⟩=some (Value.slice none 0 0))/\W.cell? ⟨q,1,none⟩=some (ab 7)) (first|exact d _ F|exact d _ z.1|exact d _ k|exact d _ (k.alloc k.size _)|exact d _ D|exact d _ v|exact d _ (v.alloc v.size _)|exact⟨o7 N.2.1 (ao _ _),N.2.2⟩) ((first
  | (go_at_call 12;first
      | (refine(O _ _ _ _ n.1 (f.1.trans (F.mono f.1.size))).mono ?_;rintro e a4 ⟨a1,a2,rfl,u⟩;have k:=ap (F.trans (u.2.mono F.size)))
      | (refine(O _ _ _ _ n.1 (f.1.trans (z.1.mono f.1.size))).mono ?_;rintro e a4 ⟨a1,a2,rfl,u⟩;have k:=ap (z.1.trans (u.2.mono z.1.size));have aZ:=ap ((u.2.block _ (aF.1 z.2).1).trans z.2)))
  | (go_at_call 11;first
      | (refine(Q _ _ _ _ _ u.1 (ao _ _) aZ).mono ?_;rintro e a5 ⟨rfl,G⟩;have D:=ap (k.trans (G.mono k.size));clear G)
      | (refine(Q _ _ _ _ _ u.1 ((ao _ _).alloc (am _) _) (aA _ _)).mono ?_;rintro e a5 ⟨rfl,G⟩;have D:=ap ((k.alloc k.size _).trans (G.mono (k.alloc k.size _).size));clear G))
  | (go_at_call 22;refine(aH _).mono ?_;rintro e a6 ⟨y0,y1,y2,ya,yl,yc,rfl,aq⟩;have v:=ap (D.trans (aq.2.mono D.size)))
  | (go_at_call 21;refine(aB _ _ q _ _ _ a6 _ _ _ _ _ _ _ n.1 ⟨f.1.trans (v.mono f.1.size),f.2.1,f.2.2 _ v⟩ (az f.1.size D.size) aq.1 (A _ v) ((ao _ _).alloc (am _) _) ⟨am _,aA _ _⟩).mono ?_;rintro e bd ⟨rfl,N⟩)))
 all_goals
  have a0:=ap (aI _ _ N.1);clear O Q aB aI aH A d F f;go_upto_region 11 with fail;go_wp2_with fail;refine a0.mono ?_;rintro e be ⟨a9,ba,rfl,aS⟩;have aY:=ap aS;clear aS;go_wp2_with fail
  go_ret
  exact⟨rfl,aY⟩
theorem Ci(g:Nat)(u:Option Nat)(a:Int)(nm:ByteArray)(l:Value)(L:Nat)(w:World)(K:Int->Int->ByteArray->Option Addr->Nat->Nat->World->Prop)(J:Int->Int->ByteArray->Option Addr->Nat->Nat->Option Addr->Nat->World->Prop)(P:g<w.heap.size)(A:Hid (w.cell? ⟨g,3,none⟩=some (.map u)))(B:Hid (∀W,aj w W->(Instr.lookup 67 (.map u) (ab a) true).run Tryz.prog W=.ok (.tuple #[l,.bool true]) W))(E:Hid (∀W,aj w W->ak 33 #[l] W λe w'=>e=.returned (af nm)/\aj W w'))(F:Hid (∀W,aj w W->w.heap.size<W.heap.size->ak 34 #[l] W λe w'=>∃y0 y1 y2 ya yl yc,e=.returned (.agg #[ab y0,ab y1,af y2,ae ya yl yc])/\Hid (aj W w'/\K y0 y1 y2 ya yl yc w')))(C:Hid (∀y0 y1 y2 ya yl yc W,aj w W->w.heap.size<W.heap.size->K y0 y1 y2 ya yl yc W->ak 35 #[l] W λe w'=>∃ma d,e=.returned (ae ma L d)/\Hid (aj W w'/\∀I,bt (λq=>q=w.heap.size) w' I->J y0 y1 y2 ya yl yc ma d I))):ak 15 #[aC g,ab a] w λe w'=>∃y0 y1 y2 ya yl yc ma d,e=.returned (.tuple #[af nm,.agg #[ab y0,ab y1,af y2,ae ya yl yc],ae ma L d,ab 0])/\Hid (J y0 y1 y2 ya yl yc ma d w'/\aj w w'):=by
 go_enter func15,ntmps15;go_upto_region 1 with fail;generalize t:w.alloc _=x;have HB:Hid (aj w x):=by
  rw[<-t];exact(ao _ _).alloc (am _) _
 have G:Hid (x.heap[w.heap.size]?=some (.cells #[ab 0,ab 0,af ⟨#[]⟩,ae none 0 0] 31)):=by
  rw[<-t];exact aA _ _
 clear t;have O:=B _ HB;have N:x.cell? ⟨g,3,none⟩=some (.map u):=(HB.cell (p:=⟨g,3,none⟩) P).trans A;clear B A;go_wp2_with fail;refine(E _ HB).mono ?_;rintro e Q ⟨rfl,r⟩;have j:=ap (HB.trans (r.mono HB.size));have m:=ap (ge r G);clear r E O N HB G;go_wp2_with fail;refine(F _ j (aF.1 m).1).mono ?_;rintro e R ⟨y0,y1,y2,ya,yl,yc,rfl,h⟩;have k:=ap (j.trans (h.1.mono j.size));have n:=ap (ge h.1 m);have D:=ap (C _ _ _ _ _ _ _ k (aF.1 n).1 h.2);clear C h F j m;go_wp2_with fail;refine D.mono ?_;rintro e b ⟨ma,d,rfl,i⟩;have y:=ap (k.trans (i.1.mono k.size));have c:=ge i.1 n;have H:=ap (i.2 _ (oh b w.heap.size 0 (ab y0) (ab y1) (af y2) (ae ya yl yc)));have z:Hid (aj w (dd b w.heap.size 0 (ab y0) (ab y1) (af y2) (ae ya yl yc))):=(dJ (o:=0) (v0:=ab y0) (v1:=ab y1) (v2:=af y2) (v3:=ae ya yl yc) y (am _));have f:=ap (xM c (ab y0) (ab y1) (af y2) (ae ya yl yc));obtain⟨q,s⟩:∃q,q=w.heap.size:=⟨_,rfl⟩;rw[<-s]at c f z H ⊢;have M:=ap s;clear s;have S:b.cell? ⟨q,0,none⟩=some (ab 0):=ag c 0;have T:b.cell? ⟨q,1,none⟩=some (ab 0):=ag c 1;have U:b.cell? ⟨q,2,none⟩=some (af ⟨#[]⟩):=ag c 2;have V:b.cell? ⟨q,3,none⟩=some (ae none 0 0):=ag c 3;have f0:b.frozen? ⟨q,0,none⟩=false:=by simp[World.frozen?,c]
 have f1:b.frozen? ⟨q,1,none⟩=false:=by simp[World.frozen?,c]
 have f2:b.frozen? ⟨q,2,none⟩=false:=by simp[World.frozen?,c]
 have f3:b.frozen? ⟨q,3,none⟩=false:=by simp[World.frozen?,c]
 clear c i D n k y;go_wp2_with fail;have d0:(dd b q 0 (ab y0) (ab y1) (af y2) (ae ya yl yc)).cell? ⟨q,0,none⟩=some (ab y0):=ag f 0;have d1:(dd b q 0 (ab y0) (ab y1) (af y2) (ae ya yl yc)).cell? ⟨q,1,none⟩=some (ab y1):=ag f 1;have d2:(dd b q 0 (ab y0) (ab y1) (af y2) (ae ya yl yc)).cell? ⟨q,2,none⟩=some (af y2):=ag f 2;have d3:(dd b q 0 (ab y0) (ab y1) (af y2) (ae ya yl yc)).cell? ⟨q,3,none⟩=some (ae ya yl yc):=ag f 3;simp only[dd,cX]at d0 d1 d2 d3;exact av (v:=.tuple #[af nm,.agg #[ab y0,ab y1,af y2,ae ya yl yc],ae ma L d,ab 0]) (by simp[results,results15,go_sem,d0,d1,d2,d3]) rfl ⟨y0,y1,y2,ya,yl,yc,ma,d,rfl,H,M.out▸z.out⟩
def ni(t:Tc)(B:Nat)(y0 y1:Int)(y2:ByteArray)(ya:Option Addr)(yl yc:Nat)(W:World):Prop:=∃(m:Nat)(x:Tm (m+1)),(x.1=(y0,y1,y2)/\x.2.1=(ya,yc)/\x.2.2.length=yl)/\ax (m+1) x 13 t=true/\In W.heap.size W (m+1) x/\ch (λq=>B<=q/\q<W.heap.size) (m+1) x
theorem ni.kee{t:Tc}{B:Nat}{y0 y1:Int}{y2:ByteArray}{ya:Option Addr}{yl yc:Nat}{W b:World}(d:ni t B y0 y1 y2 ya yl yc W){S:Nat->Prop}(c:bt S W b)(i:∀q,B<=q->q<W.heap.size->¬S q):ni t B y0 y1 y2 ya yl yc b:=by
 obtain⟨j,k,e,f,g,h⟩:=d;have:=eS c (D:=λq=>B<=q/\q<W.heap.size) (λq a=>i q a.1 a.2) ⟨g,h⟩;exact⟨j,k,e,f,this.1,this.2.mono λq a=>⟨a.1,aR a.2 c.size⟩⟩
def sU(a:List Tc)(B:Nat)(ma:Option Addr)(W:World):Prop:=∃ys:List Tc,ys.length=a.length/\fH W.heap.size W 13 ys ma/\ys.map (cn 13)=a/\(∀y∈ys,bz 13 y=0/\ch (λq=>B<=q) 13 y)/\∀g o,ma=some ⟨g,o,none⟩->B<=g
theorem sU.kee{f:List Tc}{B:Nat}{ma:Option Addr}{W b:World}(v:sU f B ma W){S:Nat->Prop}(e:bt S W b)(k:∀q,B<=q->q<W.heap.size->¬S q):sU f B ma b:=by
 obtain⟨F,A,C,E,n,m⟩:=v;refine⟨F,A,?_,E,n,m⟩;rcases C with s|⟨a,o,t,c,u⟩
 ·exact ah s
 ·subst t;have x:=m a o rfl;refine ai ⟨a,o,rfl,aR c e.size,λz p l=>?_⟩;have w:b.heap[a]?=W.heap[a]? :=e.block a c (k a x c);have d:=u z p l;have y:=eS e (D:=λq=>B<=q/\q<W.heap.size) (λq r=>k q r.1 r.2) ⟨d.2,In.offB (n p (aJ l)).2 d.2⟩;refine⟨?_,y.1⟩;obtain⟨g,h,i,j⟩:=d.1;simp only[World.cell?,<-w]at g h i j;exact⟨g,h,i,j⟩
section
variable {p:jY} {s:Sy} {d:fT} {w:World}
theorem bj.procS(j:bj p s d w){a:Int}{nm:ByteArray}{cs:Tc}{f:List Tc}(F:s.get a=some (nm,cs,f))(R:nm.size<=2048)(am:d.k<=47000):ak 15 #[aC p.b,ab a] w λe w'=>∃y0 y1 y2 ya yl yc ma m,e=.returned (.tuple #[af nm,.agg #[ab y0,ab y1,af y2,ae ya yl yc],ae ma f.length m,ab 0])/\Hid ((ni cs w.heap.size y0 y1 y2 ya yl yc w'/\sU f w.heap.size ma w')/\aj w w'):=by
 obtain⟨n,G⟩:∃n,cU d.l a=some n:=by
  have:=j.alive a;rw[F]at this;exact fu.1 this
 obtain⟨Y,J,I,C,v,al⟩:=j.ps a n G;rw[F]at C;obtain⟨rfl,rfl,rfl⟩:nm=Y/\cs=J/\f=I:=by simpa using C
 refine Ci p.b d.po a nm (Al n) f.length w (λy0 y1 y2 ya yl yc h=>ni cs (w.heap.size+1) y0 y1 y2 ya yl yc h) (λy0 y1 y2 ya yl yc ma m w'=>ni cs w.heap.size y0 y1 y2 ya yl yc w'/\sU f w.heap.size ma w') j.lo.2 j.cells.2.2.2 (λh g=>?_) (λh g=>(v.later g).sname R) (λh g Q=>?_) λy0 y1 y2 ya yl yc h g Q P=>?_
 ·have:=(j.later g).look a true;rw[if_pos rfl,G]at this;exact this
 ·refine((v.later g).state (by omega)).mono ?_;rintro e w' ⟨c,rfl,t⟩;obtain⟨K,D,L,M,N⟩:=t.out;refine⟨c.1.1,c.1.2.1,c.1.2.2,c.2.1.1,c.2.2.length,c.2.1.2,rfl,K,12,c,⟨rfl,rfl,rfl⟩,?_,D,(In.offB L D).mono λq i=>⟨by omega,i.2⟩⟩;rw[<-N];exact dw _ _ _ _ (ei M)
 ·refine((v.later g).mails2 (by omega) (by omega)).mono ?_;rintro e w' ⟨B,ma,m,rfl,t⟩;obtain⟨T,x,U,V,W,X⟩:=t;have an:=x.size;refine⟨ma,m,rfl,x,λai E=>⟨?_,?_⟩⟩
  ·obtain⟨S,aa,y,z,A,r⟩:=(P.kee (aK x λ_=>False) λ_ _ _ i=>i).kee E λq ad ag ah=>by omega
   exact⟨S,aa,y,z,A,r.mono λq i=>⟨by omega,i.2⟩⟩
  ·have O:sU f h.heap.size ma w':=⟨B,T,U,V,X,λu o e=>W u (by rw[e];rfl)⟩;obtain⟨B,y,z,A,r,Z⟩:=O.kee E λq ad ag ah=>by omega
   exact⟨B,y,z,A,λc H=>⟨(r c H).1,(r c H).2.mono λq i=>by omega⟩,λu o e=>by have:=Z u o e;omega⟩
end
end Go.Proofs.YtmmahddlcldmiaaGreat
