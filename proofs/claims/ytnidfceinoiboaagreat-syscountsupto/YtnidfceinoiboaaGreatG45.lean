/- What is proved here: plain facts and contracts that the claimed theorem stands on. No condition but those that each names. -/
import Derived.Test.YtnidfceinoiboaaGreatG44
import Derived.ProofKit
import Derived.OpenShut
import Derived.JoinedCond
namespace Go.Proofs.YtnidfceinoiboaaGreat
open Go.ChangeShapes Go.WideShapes Go.ChangeAt Go.RowKit
open Go.RowKit
set_option maxRecDepth 100000
set_option maxHeartbeats 1000000
theorem own:ownKnob Tryz.prog.godebug=none:=by kernel_rfl
theorem r9:laidOutB Tryz.prog=true:=by kernel_rfl
theorem jB:Tryz.prog.cellsOf 30=4:=by kernel_rfl
theorem sL:Tryz.prog.cellsOf 3=1:=by kernel_rfl
theorem kF:Tryz.prog.cellsOf 9=1:=by kernel_rfl
theorem AC:Tryz.prog.cellsOf 28=1:=by kernel_rfl
theorem wK{e:Type}{P:Nat->e->Prop}:(len:Nat)->(∀i,i<len->∃y,P i y)->∃l:List e,l.length=len/\∀i y,l[i]?=some y->P i y
 | 0,_=>⟨[],rfl,λi y b=>by simp at b⟩
 | len+1,b=>by
  obtain⟨l,h,j⟩:=wK len (λi d=>b i (by omega));obtain⟨z,k⟩:=b len (by omega);refine⟨l++ [z],by simp[h],λi y a=>?_⟩;by_cases d:i<l.length
  ·rw[cY d]at a;exact j i y a
  ·rw[dN (by omega)]at a;have c:i-l.length=0:=by
    by_cases c:i-l.length=0
    ·exact c
    ·rw[eP (by simp;omega)]at a;cases a
   rw[c]at a;have f:z=y:=by simpa using a
   have g:i=len:=by omega
   rw[g,<-f];exact k
theorem JS{H:Type}{n:Nat}:(p:List (Tm n))->(es:List (DataW H))->(∀(i:Nat)(y:Tm n)(e:DataW H),p[i]?=some y->es[i]?=some e->wt n y<=Rows.uptoBulk e)->p.length=es.length->(p.map λy=>wt n y).sum<=Rows.uptoBulkAll es
 | [],es,_,h=>by simp
 | y::p,[],_,h=>by simp at h
 | y::p,e::es,hp,h=>by
  have f:=hp 0 y e (by simp) (by simp);have g:=JS p es (λi d a c b=>hp (i+1) d a (by simpa using c) (by simpa using b)) (by simpa using h);simp only[aH,bt,Rows.uptoBulkAll];omega
theorem Cc(b o i j:Nat):((⟨b,o,none⟩:Addr).add i).add j=⟨b,o+i+j,none⟩:=by
 unfold Addr.add;split<;>split<;>simp_all
theorem vE{w:World}{a:Addr}{v:Value}(c:w.cell? ((a.add 0).add 0)=some v):a=⟨a.block,a.off,none⟩:=by
 have d:(a.add 0).add 0=a:=rfl;rw[d]at c;unfold World.cell? at c;split at c
 ·split at c
  ·cases c
  ·rename_i e;cases a with
   | mk b o f=>cases f with
    | none=>rfl
    | some g=>simp at e
 ·cases c
theorem xE{k:Int}(a:(Lit.int .i64 k).wf=true):dc k:=by
 have: -9223372036854775808<=k/\k<=9223372036854775807:=by simpa [Lit.wf,IntKind.min,IntKind.max,IntKind.signed,IntKind.bits]using a
 exact this
theorem Jt{H:Type}(enc:TypeId×Value->H)(w:World)(p:Nat->Bool):(n f:Nat)->f<=2*n+1->(cs:List Value)->(x:DataW H×List MemPlace)-> DataW.trod enc Tryz.prog w 0 p true f 30 cs=some x-> ∃t:Tm (n+1),cs=[.int .i64 t.1.1,.int .i64 t.1.2.1,.string t.1.2.2,.slice t.2.1.1 t.2.2.length t.2.1.2]/\In w.heap.size w (n+1) t/\wt (n+1) t<=Rows.uptoBulk x.1:=by
 intro n
 induction n with
 | zero=>
  intro f an cs x l;obtain⟨h,m,rfl,rfl,I,K,q⟩:=ik Tryz.underlying30 l;have u:DataW.trod enc Tryz.prog w 0 p true m 3 ((cs.drop 0).take (Tryz.prog.cellsOf 3))=h[0]? :=q 0 _ rfl;obtain rfl:m=0:=by omega
  have aG:h.length=4:=K;rw[aA (by omega)]at u;cases u
 | succ n ih=>
  intro f an cs x l;obtain⟨h,m,rfl,rfl,I,K,q⟩:=ik Tryz.underlying30 l;have u:DataW.trod enc Tryz.prog w 0 p true m 3 ((cs.drop 0).take (Tryz.prog.cellsOf 3))=h[0]? :=q 0 _ rfl;have R:DataW.trod enc Tryz.prog w 0 p true m 3 ((cs.drop 1).take (Tryz.prog.cellsOf 3))=h[1]? :=q 1 _ rfl;have S:DataW.trod enc Tryz.prog w 0 p true m 9 ((cs.drop 2).take (Tryz.prog.cellsOf 9))=h[2]? :=q 2 _ rfl;have T:DataW.trod enc Tryz.prog w 0 p true m 28 ((cs.drop 3).take (Tryz.prog.cellsOf 28))=h[3]? :=q 3 _ rfl;rw[sL]at u R;rw[kF]at S;rw[AC]at T;rw[jB]at I;obtain⟨d,i,j,e,rfl⟩:∃d i j e,cs=[d,i,j,e]:=by
   match cs,I with
   | [d,i,j,e],_=>exact⟨d,i,j,e,rfl⟩
  obtain⟨y0,y1,y2,y,rfl⟩:∃y0 y1 y2 y,h=[y0,y1,y2,y]:=by
   match h,K with
   | [y0,y1,y2,y],_=>exact⟨y0,y1,y2,y,rfl⟩
  obtain⟨k,O,av,Y⟩:=kA Tryz.underlying3 (x:=y0) (by simpa using u);obtain⟨X,P,aw,Z⟩:=kA Tryz.underlying3 (x:=y1) (by simpa using R);obtain⟨r,Q,ax,aa⟩:=nP Tryz.underlying9 (x:=y2) (by simpa using S);have ah:DataW.trod enc Tryz.prog w 0 p true m 28 [e]=some y:=by simpa using T
  simp at O P Q;subst O P Q av aw ax;rcases DataW.trod_slice Tryz.underlying28 ah with⟨s,rfl⟩|⟨a,len,cap,D,aJ,au,rfl,s,rfl,_,aB,ak,az,E,_,_⟩
  ·simp at s;subst s;refine⟨((k,X,r),(none,0),[]),rfl,⟨⟨xE Y,xE Z,aa,ag _,aD _⟩,ae rfl⟩,?_⟩;have es:r.data.toList.length=r.size:=by rw[gG];rfl
   simp only[wt,Rows.uptoBulk,Rows.uptoBulkAll,aH,bQ,iV];omega
  ·simp at s;subst s;simp only[jB]at E;have key:∀c,c<len->∃t:Tm (n+1),(∃b o,a=⟨b,o,none⟩/\b<w.heap.size/\dr w b (o+c*4) (n+1) t)/\In w.heap.size w (n+1) t/\∀g,(D.map (·.1))[c]?=some g->wt (n+1) t<=Rows.uptoBulk g:=by
    intro c ap;have V:=E c ap;have W:=E 0 (by omega);rw[aA (by omega)]at V W;obtain⟨ab,al,ar⟩:=bz.1 V;obtain⟨ad,am,aF⟩:=bz.1 W;obtain⟨_,aC,z⟩:=nZ al;obtain⟨_,aE,aj⟩:=nZ am;obtain⟨t,rfl,G,F⟩:=ih au (by omega) ab _ ar;have U:=vE (w:=w) (a:=a) (v:=ad[0]'(by omega)) (by have:=aj 0 (by omega);rw[aA (by omega)]at this;simpa using this);have ai:∀C,(a.add (c*4)).add C=⟨a.block,a.off+c*4+C,none⟩:=λC=>by
     have:=Cc a.block a.off (c*4) C;rw[<-U]at this;exact this
    have d:=z 0 (by omega);have i:=z 1 (by omega);have j:=z 2 (by omega);have e:=z 3 (by omega);rw[ai]at d i j e;simp at d i j e;refine⟨t,⟨a.block,a.off,U,jX w ⟨a.block,a.off+c*4,none⟩ d,d,i,j,e⟩,G,λg A=>?_⟩;rw[dh,aA (by omega)]at A;have:(D[c]).1=g:=by simpa using A
    rw[<-this];exact F
   obtain⟨M,B,J⟩:=wK len key;refine⟨((k,X,r),(some a,cap),M),by simp[B],⟨⟨xE Y,xE Z,aa,by simp only;omega,ak⟩,?_⟩,?_⟩
   ·rcases Nat.eq_zero_or_pos len with l|l
    ·exact ae (bK (B.trans l))
    ·obtain⟨⟨b,o,rfl,F,_⟩,_,_⟩:=J 0 (M[0]'(by rw[B];exact l)) (aA (by rw[B];exact l));refine af ⟨b,o,rfl,F,λc N L=>?_⟩;obtain⟨⟨ay,aI,g,_,ao⟩,G,_⟩:=J c N L;simp at g;obtain⟨rfl,rfl⟩:=g;exact⟨ao,G⟩
   ·have aq:=JS M (D.map (·.1)) (λc N g L A=>(J c N L).2.2 g A) (by simp;omega);have es:r.data.toList.length=r.size:=by rw[gG];rfl
    simp only[wt,Rows.uptoBulk,Rows.uptoBulkAll,aH,bQ]at aq ⊢;omega
def JQ(n:Nat)(a:Ac n):Nat:=wt n a.2.1.1+wt n a.2.1.2+a.2.2.1.size+1
def JR(n:Nat)(c:Cl n):Nat:=wt n c.1.1+wt n c.1.2.1+wt n c.1.2.2+(c.2.2.map (JQ n)).sum+1
def Hx(n:Nat)(b:Bh n):Nat:=b.1.size+(b.2.2.map (JR n)).sum+1
theorem xX:Tryz.prog.cellsOf 83=11:=by kernel_rfl
theorem rh:Tryz.prog.cellsOf 86=13:=by kernel_rfl
theorem xY:Tryz.prog.cellsOf 89=2:=by kernel_rfl
theorem Da:Tryz.prog.cellsOf 84=1:=by kernel_rfl
theorem vY:Tryz.prog.cellsOf 87=1:=by kernel_rfl
theorem CH{a H:Type}(g:a->Nat):(p:List a)->(es:List (DataW H))->(∀(i:Nat)(y:a)(e:DataW H),p[i]?=some y->es[i]?=some e->g y<=Rows.uptoBulk e)->p.length=es.length->(p.map g).sum<=Rows.uptoBulkAll es
 | [],es,_,h=>by simp
 | y::p,[],_,h=>by simp at h
 | y::p,e::es,hp,h=>by
  have j:=hp 0 y e (by simp) (by simp);have k:=CH g p es (λi f b d c=>hp (i+1) f b (by simpa using d) (by simpa using c)) (by simpa using h);simp only[aH,bt,Rows.uptoBulkAll];omega
theorem tS{H q:Type}(enc:TypeId×Value->H)(w:World)(L:Nat->Bool)(k:Nat)(f:q->List Value)(I:q->Prop)(g:q->Nat)(T S:TypeId)(P:Tryz.prog.underlying S=some (.slice T))(ab:Tryz.prog.cellsOf T=k)(am:0<k)(K:∀y,(f y).length=k)(C:Nat)(O:∀(m:Nat)(cs:List Value)(x:DataW H×List MemPlace),m<=C->DataW.trod enc Tryz.prog w 0 L true m T cs=some x->∃y,cs=f y/\I y/\g y<=Rows.uptoBulk x.1)(m:Nat)(aq:m<=C)(v:Value)(x:DataW H×List MemPlace)(j:DataW.trod enc Tryz.prog w 0 L true m S [v]=some x):∃a l c,v=.slice a l.length c/\l.length<=c/\c<=maxLen/\oF w.heap.size w k f I a l/\(l.map g).sum+1<=Rows.uptoBulk x.1:=by
 rcases DataW.trod_slice P j with⟨d,rfl⟩|⟨a,len,cap,r,aw,ai,rfl,d,rfl,_,ap,V,al,s,_,_⟩
 ·simp at d;subst d;exact⟨none,[],0,rfl,ag _,aD _,ae rfl,by simp[Rows.uptoBulk]⟩
 ·simp at d;subst d;simp only[ab]at s;have key:∀e,e<len->∃y:q,(∃b o,a=⟨b,o,none⟩/\b<w.heap.size/\∀(h:Nat)(i:Value),(f y)[h]?=some i->w.cell? ⟨b,o+e*k+h,none⟩=some i)/\I y/\∀d,(r.map (·.1))[e]?=some d->g y<=Rows.uptoBulk d:=by
   intro e Z;have F:=s e Z;have G:=s 0 (by omega);rw[aA (by omega)]at F G;obtain⟨M,W,ad⟩:=bz.1 F;obtain⟨N,X,au⟩:=bz.1 G;obtain⟨_,an,R⟩:=nZ W;obtain⟨_,ao,U⟩:=nZ X;obtain⟨y,rfl,u,t⟩:=O ai M _ (by omega) ad;have D:=vE (w:=w) (a:=a) (v:=N[0]'(by omega)) (by have:=U 0 (by omega);rw[aA (by omega)]at this;simpa using this);have Q:∀h,(a.add (e*k)).add h=⟨a.block,a.off+e*k+h,none⟩:=λh=>by
    have:=Cc a.block a.off (e*k) h;rw[<-D]at this;exact this
   have E:∀(h:Nat)(i:Value),(f y)[h]?=some i->w.cell? ⟨a.block,a.off+e*k+h,none⟩=some i:=λh i J=>by
    have aa:=(aK.1 J).1;have:=R h (by rw[K]at aa;omega);rw[Q,J]at this;exact this
   obtain⟨aj,ah⟩:∃i,(f y)[0]?=some i:=⟨(f y)[0]'(by rw[K];omega),aA _⟩;refine⟨y,⟨a.block,a.off,D,jX w ⟨a.block,a.off+e*k+0,none⟩ (E 0 aj ah),E⟩,u,λd n=>?_⟩;rw[dh,aA (by omega)]at n;have:(r[e]).1=d:=by simpa using n
   rw[<-this];exact t
  obtain⟨B,p,z⟩:=wK len key;refine⟨some a,B,cap,by rw[p],by omega,V,?_,?_⟩
  ·rcases Nat.eq_zero_or_pos len with j|j
   ·exact ae (bK (p.trans j))
   ·obtain⟨⟨b,o,rfl,t,_⟩,_,_⟩:=z 0 (B[0]'(by rw[p];exact j)) (aA (by rw[p];exact j));refine af ⟨b,o,rfl,t,λe y A=>?_⟩;obtain⟨⟨ak,av,d,_,Y⟩,u,_⟩:=z e y A;simp at d;obtain⟨rfl,rfl⟩:=d;exact⟨Y,u⟩
  ·have ar:=CH g B (r.map (·.1)) (λe y d A n=>(z e y A).2.2 d n) (by simp;omega);simp only[Rows.uptoBulk];omega
theorem mi{H:Type}(enc:TypeId×Value->H)(w:World)(a:Nat->Bool)(n m:Nat)(f:m<=n)(cs:List Value)(x:DataW H×List MemPlace)(b:DataW.trod enc Tryz.prog w 0 a true m 30 cs=some x):∃t:Tm (n+1),cs=gq (n+1) t/\In w.heap.size w (n+1) t/\wt (n+1) t<=Rows.uptoBulk x.1:=by
 obtain⟨t,c,d,e⟩:=Jt enc w a n m (by omega) cs x b;exact⟨t,c,d,e⟩
theorem Ke{H:Type}(enc:TypeId×Value->H)(w:World)(b:Nat->Bool)(n m:Nat)(Y:m<=n)(cs:List Value)(x:DataW H×List MemPlace)(M:DataW.trod enc Tryz.prog w 0 b true m 83 cs=some x):∃a:Ac (n+1),cs=fy (n+1) a/\gQ (n+1) w.heap.size w a/\JQ (n+1) a<=Rows.uptoBulk x.1:=by
 obtain⟨c,m,rfl,rfl,G,N,o⟩:=ik Tryz.underlying83 M;have B:DataW.trod enc Tryz.prog w 0 b true m 3 ((cs.drop 0).take (Tryz.prog.cellsOf 3))=c[0]? :=o 0 _ rfl;have C:DataW.trod enc Tryz.prog w 0 b true m 30 ((cs.drop 1).take (Tryz.prog.cellsOf 30))=c[1]? :=o 1 _ rfl;have D:DataW.trod enc Tryz.prog w 0 b true m 30 ((cs.drop 5).take (Tryz.prog.cellsOf 30))=c[2]? :=o 2 _ rfl;have E:DataW.trod enc Tryz.prog w 0 b true m 9 ((cs.drop 9).take (Tryz.prog.cellsOf 9))=c[3]? :=o 3 _ rfl;have F:DataW.trod enc Tryz.prog w 0 b true m 3 ((cs.drop 10).take (Tryz.prog.cellsOf 3))=c[4]? :=o 4 _ rfl;rw[sL]at B F;rw[jB]at C D;rw[kF]at E;rw[xX]at G;obtain⟨r,d,e,f,g,h,i,j,l,u,s,rfl⟩:∃r d e f g h i j l u s,cs=[r,d,e,f,g,h,i,j,l,u,s]:=by
  match cs,G with
  | [r,d,e,f,g,h,i,j,l,u,s],_=>exact⟨r,d,e,f,g,h,i,j,l,u,s,rfl⟩
 obtain⟨y0,y1,y2,p,q,rfl⟩:∃y0 y1 y2 p q,c=[y0,y1,y2,p,q]:=by
  match c,N with
  | [y0,y1,y2,p,q],_=>exact⟨y0,y1,y2,p,q,rfl⟩
 obtain⟨k,y,T,Q⟩:=kA Tryz.underlying3 (x:=y0) (by simpa using B);obtain⟨J,A,V,S⟩:=kA Tryz.underlying3 (x:=q) (by simpa using F);obtain⟨v,z,U,R⟩:=nP Tryz.underlying9 (x:=p) (by simpa using E);obtain⟨t,K,O,W⟩:=mi enc w b n m (by omega) [d,e,f,g] y1 (by simpa using C);obtain⟨I,L,P,X⟩:=mi enc w b n m (by omega) [h,i,j,l] y2 (by simpa using D);simp at y z A;subst y z A T U V;refine⟨(k,(t,I),(v,J)),?_,⟨xE Q,O,P,R,xE S⟩,?_⟩
 ·show _=.int .i64 k::(gq (n+1) t++gq (n+1) I++ [.string v,.int .i64 J]);rw[<-K,<-L];rfl
 ·have es:v.data.toList.length=v.size:=by rw[gG];rfl
  simp only[JQ,Rows.uptoBulk,Rows.uptoBulkAll,aH,bQ];omega
theorem Dd{H:Type}(enc:TypeId×Value->H)(w:World)(b:Nat->Bool)(n m:Nat)(F:m<=n)(cs:List Value)(x:DataW H×List MemPlace)(z:DataW.trod enc Tryz.prog w 0 b true m 86 cs=some x):∃a:Cl (n+1),cs=ex (n+1) a/\gj (n+1) w.heap.size w a/\JR (n+1) a<=Rows.uptoBulk x.1:=by
 obtain⟨d,m,rfl,rfl,E,Q,y⟩:=ik Tryz.underlying86 z;have A:DataW.trod enc Tryz.prog w 0 b true m 30 ((cs.drop 0).take (Tryz.prog.cellsOf 30))=d[0]? :=y 0 _ rfl;have B:DataW.trod enc Tryz.prog w 0 b true m 30 ((cs.drop 4).take (Tryz.prog.cellsOf 30))=d[1]? :=y 1 _ rfl;have C:DataW.trod enc Tryz.prog w 0 b true m 84 ((cs.drop 8).take (Tryz.prog.cellsOf 84))=d[2]? :=y 2 _ rfl;have D:DataW.trod enc Tryz.prog w 0 b true m 30 ((cs.drop 9).take (Tryz.prog.cellsOf 30))=d[3]? :=y 3 _ rfl;rw[jB]at A B D;rw[Da]at C;rw[rh]at E;obtain⟨e,f,j,k,o,p,q,r,s,u,g,h,i,rfl⟩:∃e f j k o p q r s u g h i,cs=[e,f,j,k,o,p,q,r,s,u,g,h,i]:=by
  match cs,E with
  | [e,f,j,k,o,p,q,r,s,u,g,h,i],_=>exact⟨e,f,j,k,o,p,q,r,s,u,g,h,i,rfl⟩
 obtain⟨y0,y1,y2,v,rfl⟩:∃y0 y1 y2 v,d=[y0,y1,y2,v]:=by
  match d,Q with
  | [y0,y1,y2,v],_=>exact⟨y0,y1,y2,v,rfl⟩
 obtain⟨t,J,R,U⟩:=mi enc w b n m (by omega) [e,f,j,k] y0 (by simpa using A);obtain⟨G,K,S,V⟩:=mi enc w b n m (by omega) [o,p,q,r] y1 (by simpa using B);obtain⟨I,M,T,W⟩:=mi enc w b n m (by omega) [u,g,h,i] v (by simpa using D);obtain⟨a,l,c,L,O,N,P,X⟩:=tS enc w b 11 (fy (n+1)) (gQ (n+1) w.heap.size w) (JQ (n+1)) 83 84 Tryz.underlying84 xX (by omega) (λ_=>rfl) n (λm cs x F z=>Ke enc w b n m F cs x z) m (by omega) s y2 (by simpa using C);subst L;refine⟨((t,G,I),(a,c),l),?_,⟨⟨R,S,T⟩,⟨O,N⟩,P⟩,?_⟩
 ·show _=gq (n+1) t++gq (n+1) G++(.slice a l.length c::gq (n+1) I);rw[<-J,<-K,<-M];rfl
 ·simp only[JR,Rows.uptoBulk,Rows.uptoBulkAll,aH,bQ];omega
theorem Kg{H:Type}(enc:TypeId×Value->H)(w:World)(d:Nat->Bool)(n m:Nat)(q:m<=n)(cs:List Value)(x:DataW H×List MemPlace)(g:DataW.trod enc Tryz.prog w 0 d true m 89 cs=some x):∃a:Bh (n+1),cs=nr (n+1) a/\og (n+1) w.heap.size w a/\Hx (n+1) a<=Rows.uptoBulk x.1:=by
 obtain⟨f,m,rfl,rfl,p,v,o⟩:=ik Tryz.underlying89 g;have j:DataW.trod enc Tryz.prog w 0 d true m 9 ((cs.drop 0).take (Tryz.prog.cellsOf 9))=f[0]? :=o 0 _ rfl;have k:DataW.trod enc Tryz.prog w 0 d true m 87 ((cs.drop 1).take (Tryz.prog.cellsOf 87))=f[1]? :=o 1 _ rfl;rw[kF]at j;rw[vY]at k;rw[xY]at p;obtain⟨e,b,rfl⟩:∃e b,cs=[e,b]:=by
  match cs,p with
  | [e,b],_=>exact⟨e,b,rfl⟩
 obtain⟨y0,y1,rfl⟩:∃y0 y1,f=[y0,y1]:=by
  match f,v with
  | [y0,y1],_=>exact⟨y0,y1,rfl⟩
 obtain⟨h,i,z,y⟩:=nP Tryz.underlying9 (x:=y0) (by simpa using j);obtain⟨a,l,c,r,t,s,u,A⟩:=tS enc w d 13 (ex (n+1)) (gj (n+1) w.heap.size w) (JR (n+1)) 86 87 Tryz.underlying87 rh (by omega) (λ_=>rfl) n (λm cs x q g=>Dd enc w d n m q cs x g) m (by omega) b y1 (by simpa using k);simp at i;subst i z r;refine⟨(h,(a,c),l),rfl,⟨y,⟨t,s⟩,u⟩,?_⟩;have es:h.data.toList.length=h.size:=by rw[gG];rfl
 simp only[Hx,Rows.uptoBulk,Rows.uptoBulkAll,aH,bQ];omega
theorem DW{H:Type}{enc:TypeId×Value->H}{W:World}{r:Reach}{g:Nat}{v:Value}{d:DataW H}{p:List MemPlace}(u:Value.okWide Tryz.prog W r g 22 v)(b:DataW.Trod enc Tryz.prog W 0 (λ_=>true) true 22 v d p):∃n,∃l:List (Bh (n+1)),∃a c,v=.slice a l.length c/\l.length<=c/\c<=maxLen/\fx (n+1) W.heap.size W a l/\(l.map (Hx (n+1))).sum<=Rows.uptoBulk d:=by
 obtain⟨a,len,cap,rfl⟩:=okWide_slice Tryz.underlying22 u;obtain⟨f,q⟩:=b;have s:DataW.trod enc Tryz.prog W 0 (λ_=>true) true f 22 [.slice a len cap]=some (d,p):=q;obtain⟨e,l,c,i,j,k,m,o⟩:=tS enc W (λ_=>true) 2 (nr (f+1)) (og (f+1) W.heap.size W) (Hx (f+1)) 89 22 Tryz.underlying22 xY (by omega) (λ_=>rfl) f (λw h x t b=>Kg enc W _ f w t h x b) f (ag _) _ _ s;exact⟨f,l,e,c,i,j,k,m,by simp only at o;omega⟩
abbrev Sk(n:Nat):Type:=ByteArray×Tm (n+1)
def LN(n:Nat)(c:Sk n):List Value:=.string c.1::gq (n+1) c.2
def JB(n:Nat)(c:Sk n):Nat:=wt (n+1) c.2+1
def Ic(n:Nat)(B:Nat)(w:World)(c:Sk n):Prop:=c.1.size<=maxLen/\In B w (n+1) c.2
abbrev Hn(n:Nat):Type:=(Int×Int×Int)×Tm (n+1)
def LK(n:Nat)(c:Hn n):List Value:=.int .i64 c.1.1::.int .i64 c.1.2.1::.int .i64 c.1.2.2::gq (n+1) c.2
def JA(n:Nat)(c:Hn n):Nat:=wt (n+1) c.2+1
def Ia(n:Nat)(B:Nat)(w:World)(c:Hn n):Prop:=(dc c.1.1/\dc c.1.2.1/\dc c.1.2.2)/\In B w (n+1) c.2
theorem sN:Tryz.prog.cellsOf 55=5:=by kernel_rfl
theorem pB:Tryz.prog.cellsOf 32=7:=by kernel_rfl
theorem GQ{H:Type}(enc:TypeId×Value->H)(w:World)(g:Nat->Bool)(n m:Nat)(A:m<=n)(cs:List Value)(x:DataW H×List MemPlace)(r:DataW.trod enc Tryz.prog w 0 g true m 55 cs=some x):∃a:Sk n,cs=LN n a/\Ic n w.heap.size w a/\JB n a<=Rows.uptoBulk x.1:=by
 obtain⟨h,m,rfl,rfl,o,s,l⟩:=ik Tryz.underlying55 r;have j:DataW.trod enc Tryz.prog w 0 g true m 9 ((cs.drop 0).take (Tryz.prog.cellsOf 9))=h[0]? :=l 0 _ rfl;have k:DataW.trod enc Tryz.prog w 0 g true m 30 ((cs.drop 1).take (Tryz.prog.cellsOf 30))=h[1]? :=l 1 _ rfl;rw[kF]at j;rw[jB]at k;rw[sN]at o;obtain⟨f,b,c,d,e,rfl⟩:∃f b c d e,cs=[f,b,c,d,e]:=by
  match cs,o with
  | [f,b,c,d,e],_=>exact⟨f,b,c,d,e,rfl⟩
 obtain⟨y0,y1,rfl⟩:∃y0 y1,h=[y0,y1]:=by
  match h,s with
  | [y0,y1],_=>exact⟨y0,y1,rfl⟩
 obtain⟨p,i,y,v⟩:=nP Tryz.underlying9 (x:=y0) (by simpa using j);obtain⟨t,q,u,z⟩:=mi enc w g n m (by omega) [b,c,d,e] y1 (by simpa using k);simp at i;subst i y;refine⟨(p,t),?_,⟨v,u⟩,?_⟩
 ·show _=.string p::gq (n+1) t;rw[<-q]
 ·simp only[JB,Rows.uptoBulk,Rows.uptoBulkAll,aH,bQ];omega
theorem AU{H:Type}(enc:TypeId×Value->H)(w:World)(c:Nat->Bool)(n m:Nat)(N:m<=n)(cs:List Value)(x:DataW H×List MemPlace)(C:DataW.trod enc Tryz.prog w 0 c true m 32 cs=some x):∃a:Hn n,cs=LK n a/\Ia n w.heap.size w a/\JA n a<=Rows.uptoBulk x.1:=by
 obtain⟨d,m,rfl,rfl,A,D,p⟩:=ik Tryz.underlying32 C;have u:DataW.trod enc Tryz.prog w 0 c true m 3 ((cs.drop 0).take (Tryz.prog.cellsOf 3))=d[0]? :=p 0 _ rfl;have v:DataW.trod enc Tryz.prog w 0 c true m 3 ((cs.drop 1).take (Tryz.prog.cellsOf 3))=d[1]? :=p 1 _ rfl;have y:DataW.trod enc Tryz.prog w 0 c true m 3 ((cs.drop 2).take (Tryz.prog.cellsOf 3))=d[2]? :=p 2 _ rfl;have z:DataW.trod enc Tryz.prog w 0 c true m 30 ((cs.drop 3).take (Tryz.prog.cellsOf 30))=d[3]? :=p 3 _ rfl;rw[sL]at u v y;rw[jB]at z;rw[pB]at A;obtain⟨j,l,o,e,f,g,h,rfl⟩:∃j l o e f g h,cs=[j,l,o,e,f,g,h]:=by
  match cs,A with
  | [j,l,o,e,f,g,h],_=>exact⟨j,l,o,e,f,g,h,rfl⟩
 obtain⟨y0,y1,y2,i,rfl⟩:∃y0 y1 y2 i,d=[y0,y1,y2,i]:=by
  match d,D with
  | [y0,y1,y2,i],_=>exact⟨y0,y1,y2,i,rfl⟩
 obtain⟨k,q,J,F⟩:=kA Tryz.underlying3 (x:=y0) (by simpa using u);obtain⟨a,r,K,G⟩:=kA Tryz.underlying3 (x:=y1) (by simpa using v);obtain⟨b,s,L,I⟩:=kA Tryz.underlying3 (x:=y2) (by simpa using y);obtain⟨t,B,E,M⟩:=mi enc w c n m (by omega) [e,f,g,h] i (by simpa using z);simp at q r s;subst q r s J K L;refine⟨((k,a,b),t),?_,⟨⟨xE F,xE G,xE I⟩,E⟩,?_⟩
 ·show _=.int .i64 k::.int .i64 a::.int .i64 b::gq (n+1) t;rw[<-B]
 ·simp only[JA,Rows.uptoBulk,Rows.uptoBulkAll,aH,bQ];omega
theorem zo{H:Type}{enc:TypeId×Value->H}{W:World}{r:Reach}{g:Nat}{v:Value}{d:DataW H}{p:List MemPlace}(u:Value.okWide Tryz.prog W r g 23 v)(b:DataW.Trod enc Tryz.prog W 0 (λ_=>true) true 23 v d p):∃n,∃l:List (Sk n),∃a c,v=.slice a l.length c/\l.length<=c/\c<=maxLen/\oF W.heap.size W 5 (LN n) (Ic n W.heap.size W) a l/\(l.map (JB n)).sum<=Rows.uptoBulk d:=by
 obtain⟨a,len,cap,rfl⟩:=okWide_slice Tryz.underlying23 u;obtain⟨f,q⟩:=b;have s:DataW.trod enc Tryz.prog W 0 (λ_=>true) true f 23 [.slice a len cap]=some (d,p):=q;obtain⟨e,l,c,i,j,k,m,o⟩:=tS enc W (λ_=>true) 5 (LN f) (Ic f W.heap.size W) (JB f) 55 23 Tryz.underlying23 sN (by omega) (λ_=>rfl) f (λw h x t b=>GQ enc W _ f w t h x b) f (ag _) _ _ s;exact⟨f,l,e,c,i,j,k,m,by simp only at o;omega⟩
theorem wS{H:Type}{enc:TypeId×Value->H}{W:World}{r:Reach}{g:Nat}{v:Value}{d:DataW H}{p:List MemPlace}(u:Value.okWide Tryz.prog W r g 24 v)(b:DataW.Trod enc Tryz.prog W 0 (λ_=>true) true 24 v d p):∃n,∃l:List (Hn n),∃a c,v=.slice a l.length c/\l.length<=c/\c<=maxLen/\oF W.heap.size W 7 (LK n) (Ia n W.heap.size W) a l/\(l.map (JA n)).sum<=Rows.uptoBulk d:=by
 obtain⟨a,len,cap,rfl⟩:=okWide_slice Tryz.underlying24 u;obtain⟨f,q⟩:=b;have s:DataW.trod enc Tryz.prog W 0 (λ_=>true) true f 24 [.slice a len cap]=some (d,p):=q;obtain⟨e,l,c,i,j,k,m,o⟩:=tS enc W (λ_=>true) 7 (LK f) (Ia f W.heap.size W) (JA f) 32 24 Tryz.underlying24 pB (by omega) (λ_=>rfl) f (λw h x t b=>AU enc W _ f w t h x b) f (ag _) _ _ s;exact⟨f,l,e,c,i,j,k,m,by simp only at o;omega⟩
theorem zt{b:Type}(f:b->Nat)(l:List b)(y:b)(a:y∈l):f y<=(l.map f).sum:=by
 induction l with
 | nil=>cases a
 | cons c l ih=>
  simp only[aH,bt];rcases br.1 a with rfl|a
  ·omega
  ·have:=ih a;omega
theorem tK{b:Type}(f:b->Nat)(a:∀y,1<=f y):(l:List b)->l.length<=(l.map f).sum
 | []=>aD _
 | y::l=>by
  have:=tK f a l;have:=a y;simp only[aH,bt,aW];omega
theorem FS{d:Type}{B k:Nat}{f:d->List Value}{I:d->Prop}{a:Option Addr}{l:List d}{w:World}(b:oF B w k f I a l){j:Nat}{y:d}(c:l[j]?=some y):∃g o,a=some ⟨g,o,none⟩/\g<B/\(∀(t:Nat)(u:Value),(f y)[t]?=some u->w.cell? ⟨g,o+j*k+t,none⟩=some u)/\I y:=by
 rcases b with b|⟨g,o,e,h,b⟩
 ·rw[b]at c;simp at c
 ·exact⟨g,o,e,h,(b j y c).1,(b j y c).2⟩
theorem FM{a:Type}(l:List a)(z:a):∃b:Nat->a,∀j,j<l.length->l[j]?=some (b j):=⟨λj=>l.getD j z,λj c=>by
 simp only[nT,aA c]
 rfl⟩
def JY(w0:World)(i a:Nat)(W:World):Prop:=∃(p:lT)(s:Sy)(d:fW),p.b=a/\aV p s d W/\dC s/\(d.k<=i*402/\d.es.length<=i*201/\d.wn<=i*201/\d.bn<=i*201)/\Below w0.heap.size w0 W/\w0.heap.size<=p.lo
def kB(a:List Int):List (Int×Bool):=a.map λk=>(k,true)
theorem FR(a:List Int)(k:Int):cE (kB a) k=if k∈a then some true else none:=by
 induction a with
 | nil=>rfl
 | cons b a ih=>
  simp only[kB,cE,aH,gJ]at ih ⊢;by_cases c:b=k
  ·simp[c]
  ·have e:(b==k)=false:=by simpa using c
   have f:¬k=b:=λd=>c d.symm;simp only[e,br,f,false_or];exact ih
theorem FQ(a:List Int)(k:Int):(kB a).eraseP (λp=>p.1==k)=kB (a.erase k):=by
 induction a with
 | nil=>rfl
 | cons b a ih=>
  simp only[kB,aH,List.eraseP_cons,List.erase_cons]at ih ⊢;cases h:b==k
  ·simp only[cond_false,lH,if_false,aH,ih]
  ·simp
abbrev AM(W:World)(b:Nat)(a:List Int):Prop:=qk Value.bool W b (kB a)
theorem AM.look{W:World}{b:Nat}{a:List Int}(c:AM W b a){k:Int}(d:k∈a):(Instr.lookup 35 (.map (some b)) (.int .i64 k) false).run Tryz.prog W=.ok (.bool true) W:=
 (qk.look c Tryz.underlying35 (z:=.bool false) (by kernel_rfl) k false).2 true (by rw[FR,if_pos d])
def sy(w0:World)(g:Nat)(a:Option Addr)(L _ c i:Nat)(last:Int)(f:List Int)(W:World):Prop:=∃(p:lT)(s:Sy)(d:fW)(e:List (ByteArray×Int×Int×Tc)),p.b=g/\aV p s d W/\dC s/\d.k<=47000/\(Below w0.heap.size w0 W/\w0.heap.size<=c/\c<W.heap.size/\d.ow c=0)/\(e.length=L/\L<=100000/\e.map JK=s.evs/\uM (c+1) a e W)/\lj (s.evs.take i)=some (last,f)/\AM W c f
def Hy(w0:World)(g:Nat)(a:Option Addr)(n c f _:Nat)(W:World):Prop:=∃(p:lT)(s:Sy)(d:fW)(e:List Int),p.b=g/\aV p s d W/\dC s/\d.k<=47000/\Below w0.heap.size w0 W/\(e.length=n/\(∀k∈e,k∈s.ps.map (·.1))/\vQ (.slice a n c) e W)/\f<W.heap.size/\AM W f (s.ps.map (·.1))
theorem sy.later{w0:World}{j:Nat}{a:Option Addr}{L c d i:Nat}{last:Int}{h:List Int}{W e:World}(n:sy w0 j a L c d i last h W)(b:Below W.heap.size W e):sy w0 j a L c d i last h e:=by
 obtain⟨z,A,k,m,l,o,t,u,⟨f,v,g,w⟩,⟨x,y,p,q⟩,r,s⟩:=n;exact⟨z,A,k,m,l,o.later b,t,u,⟨f.trans (b.mono f.size),v,aL g b.size,w⟩,⟨x,y,p,q.kee (aC b λ_=>False) λ_ _ _ B=>B⟩,r,s.kept (b.block d g)⟩
theorem Lr{w0:World}{Q:Nat}{a:Option Addr}{L c f i:Nat}{last:Int}{l:List Int}{W:World}(X:sy w0 Q a L c f i last l W)(aw:i<L):∃g nm u v ao ap aq xa ar xc,(a=some ⟨g,0,none⟩/\W.cell? ⟨g,i*7,none⟩=some (.string nm)/\W.cell? ⟨g,i*7+1,none⟩=some (.int .i64 u)/\W.cell? ⟨g,i*7+2,none⟩=some (.int .i64 v)/\W.cell? ⟨g,i*7+3,none⟩=some (.int .i64 ao)/\W.cell? ⟨g,i*7+4,none⟩=some (.int .i64 ap)/\W.cell? ⟨g,i*7+5,none⟩=some (.string aq)/\W.cell? ⟨g,i*7+6,none⟩=some (.slice xa ar xc))/\ Hid (∀h,Below W.heap.size W h->h.cell? ⟨W.heap.size,2,none⟩=some (.int .i64 v)->As f nm u v last l (λr n R=>sy w0 Q a L c f (i+1) r n R) W.heap.size h):=by
 obtain⟨P,o,S,C,rfl,Y,F,aa,⟨G,ab,H,I⟩,⟨ad,ag,z,D⟩,E,Z⟩:=X;obtain⟨ev,t⟩:∃ev,C[i]?=some ev:=⟨_,aA (by omega)⟩;have aj:o.evs[i]?=some (JK ev):=by rw[<-z,dh,t];rfl
 have N:lj (o.evs.take (i+1))=rK (some (last,l)) (JK ev):=by rw[dw,aj,Option.toList_some,lk,E]
 obtain⟨A,M⟩:=Df F.ev (i+1);obtain⟨al,O,ay,am⟩:=wk (o.evs.take i).reverse (by rw[List.reverse_reverse];exact E);have ax:last<=100000:=by
  have:(o.evs.take i).length<=100000:=by
   rw[<-z,dn,dO];omega
  rw[List.length_reverse]at O;simp only at O;omega
 rcases D.1 with d|⟨g,T,_,_,ai⟩
 ·rw[d]at t;simp at t
 have k:=ai i ev t;refine⟨g,ev.1,ev.2.1,ev.2.2.1,ev.2.2.2.1.1,ev.2.2.2.1.2.1,ev.2.2.2.1.2.2,ev.2.2.2.2.1.1,ev.2.2.2.2.2.length,ev.2.2.2.2.1.2,⟨T,k 0 _ rfl,k 1 _ rfl,k 2 _ rfl,k 3 _ rfl,k 4 _ rfl,k 5 _ rfl,k 6 _ rfl⟩,λh q K=>?_⟩;have m:AM h f l:=Z.kept (q.block f H);have p:∀e r n,bf (λA=>A=f) h e->lj (o.evs.take (i+1))=some (r,n)->AM e f n->sy w0 P.b a L c f (i+1) r n e:=λe r n w U ah=>by
  have J:=G.trans (q.mono G.size);exact⟨P,o,S,C,rfl,(Y.later q).kept w λb d=>by rw[d];exact I,F,aa,⟨J.trans (w.below J.size λb av d=>by omega),ab,aL H (au q.size w.size),I⟩,⟨ad,ag,z,(D.kee (aC q λ_=>False) λ_ _ _ d=>d).kee w λA M _ d=>by omega⟩,U,ah⟩
 rw[M]at N p;unfold As;rcases uT N.symm with⟨j,V,rfl⟩|⟨j,x,rfl⟩|⟨j,x,rfl⟩|⟨j,rfl⟩
 ·have ak:cE (kB l) (last+1)=none:=by
    rw[FR,if_neg λd=>by have:=am _ d;simp only at this;omega]
  obtain⟨e,B,s,y,an⟩:=qk.put m Tryz.underlying35 ak true;refine ae ⟨j,V,?_,e,B,?_,p _ _ _ y rfl ?_⟩
  ·rw[IntKind.wrap];simp only at al;simp[IntKind.bits,IntKind.signed];omega
  ·rw[<-K];exact y.cell 2 (jX h _ K) (by omega)
  ·have:kB l++ [(last+1,true)]=kB (l++ [last+1]):=by simp[kB]
   rw[this]at s;exact s
 ·obtain⟨e,B,s,y,an⟩:=qk.del m Tryz.underlying35 ev.2.1;rw[FQ]at s;exact af (ae ⟨j,x.2,m.look x.1,e,B,p _ _ _ y rfl s⟩)
 ·exact af (af (ae ⟨j,m.look x,p _ _ _ (bf.refl _ _) rfl m⟩))
 ·exact af (af (af ⟨j,p _ _ _ (bf.refl _ _) rfl m⟩))
theorem Fw{w0:World}{i:Nat}{a:Option Addr}{L c f:Nat}{last:Int}{e:List Int}{W:World}(l:sy w0 i a L c f L last e W):∃(p:lT)(s:Sy)(d:fW),p.b=i/\aV p s d W/\dC s/\e=s.ps.map (·.1)/\(Below w0.heap.size w0 W/\d.k<=47000/\f<W.heap.size)/\AM W f e:=by
 obtain⟨p,s,d,u,rfl,m,h,q,⟨r,w,t,x⟩,⟨y,z,n,v⟩,g,o⟩:=l;have j:s.evs.take L=s.evs:=bk (by rw[<-n,dO];omega);rw[j,h.ev]at g;exact⟨p,s,d,rfl,m,h,((Prod.mk.inj (ap g)).2).symm,⟨r,q,t⟩,o⟩
theorem Kk{w0:World}{l:Nat}{a:Option Addr}{L c e:Nat}{last:Int}{d:List Int}{W:World}(f:sy w0 l a L c e L last d W):d.length<=12/\∀b,Below W.heap.size W b->∀ty,(Builtin.len_ #[35] ty #[.map (some e)]).run Tryz.prog b=.ok (.int .i64 d.length) b:=by
 obtain⟨n,o,m,_,_,g,h,⟨_,_,i⟩,j⟩:=Fw f;refine⟨by rw[h,dO];exact g.len,λb k ty=>?_⟩;have:=qk.len (j.kept (k.block e i)) Tryz.underlying35 ty;simpa [kB]using this
theorem Fv{w0:World}{i:Nat}{a:Option Addr}{L c h:Nat}{last:Int}{g:List Int}{W m:World}(n:sy w0 i a L c h L last g W)(j:Below W.heap.size W m):Calls Tryz.prog 8 #[.pointer (some ⟨i,0,none⟩)] m λe w'=>∃b d,e=.returned (.slice b g.length d)/\Hid (sy w0 i a L c h L last g w'/\Hy w0 i b g.length d h 0 w'):=by
 obtain⟨C,D,u,rfl,o,v,p,⟨q,w,r⟩,x⟩:=Fw n;refine((o.later j).aliveL).mono ?_;rintro e w' ⟨E,t,rfl,s,A,B⟩;obtain⟨b,d,rfl,z⟩:=A.row;have l:t.length=g.length:=by rw[s.length_eq,p]
 have f:=j.trans (B.mono j.size);rw[l];refine⟨b,d,rfl,n.later f,C,D,u,t,rfl,o.later f,v,w,q.trans (f.mono q.size),⟨l,λk y=>(s.mem_iff).1 y,b,d,by rw[l],z⟩,aL r f.size,?_⟩;rw[<-p];exact x.kept (f.block h r)
theorem Iv{w0:World}{m:Nat}{a:Option Addr}{n c f j:Nat}{W:World}(F:Hy w0 m a n c f j W)(R:j<n):∃g o k,(a=some ⟨g,o,none⟩/\W.cell? ⟨g,o+j,none⟩=some (.int .i64 k))/\Hid (∀h,Below W.heap.size W h->Calls Tryz.prog 9 #[.pointer (some ⟨m,0,none⟩),.int .i64 k] h λe w'=>∃nm y0 y1 y2 ya yl yc ma L l,e=.returned (.tuple #[.string nm,.agg #[.int .i64 y0,.int .i64 y1,.string y2,.slice ya yl yc],.slice ma L l,.int .i64 0])/\Hid (∀b,Below w'.heap.size w' b->(Instr.lookup 35 (.map (some f)) (.int .i64 k) false).run Tryz.prog b=.ok (.bool true) b/\Hid (Hy w0 m a n c f (j+1) b))):=by
 obtain⟨M,N,D,B,rfl,p,q,r,s,⟨G,t,u⟩,v,H⟩:=F;obtain⟨k,y⟩:∃k,B[j]?=some k:=⟨_,aA (by omega)⟩;obtain⟨g,o,E,K⟩:=nd u rfl j k y;refine⟨g,o,k,⟨E,K⟩,λh i=>?_⟩;have z:=t k (ay y);obtain⟨O,A⟩:=fL.1 (r8.2 z);obtain⟨nm,Q,P⟩:=O;refine((p.later i).proc A (au (s9 q A:) (by omega)) r).mono ?_;rintro e w' ⟨y0,y1,y2,ya,yl,yc,ma,l,rfl,C⟩;obtain⟨_,J⟩:=C.out;refine⟨nm,y0,y1,y2,ya,yl,yc,ma,_,l,rfl,λb I=>?_⟩;have x:=(i.trans (J.mono i.size));have d:=x.trans (I.mono x.size);have w:=H.kept (d.block f v);exact⟨AM.look w z,M,N,D,B,rfl,p.later d,q,r,s.trans (d.mono s.size),⟨G,t,u.later d⟩,aL v d.size,w⟩
theorem AH(n:Nat)(l:List (Bh (n+1)))(L:Option Addr)(M:Nat)(room:Int)(U:Nat)(C:List (Sk U))(sa:Option Addr)(sc:Nat)(V:Nat)(xs:List (Hn V))(xa:Option Addr)(xc:Nat)(w:World)(aG:fx (n+1) w.heap.size w L l)(aH:l.length<=M)(aJ:M<=maxLen)(aE:jy (n+1) l=true->(aq (n+6) (cR n l)).length<=2097152)(aK:oF w.heap.size w 5 (LN U) (Ic U w.heap.size w) sa C)(aL:∀c∈C,(aq (U+1) c.2).length<=2097152)(aN:oF w.heap.size w 7 (LK V) (Ia V w.heap.size w) xa xs)(aO:∀c∈xs,(aq (V+1) c.2).length<=2097152)(aT:C.length<=1048576)(aC:xs.length<=1048576):Calls Tryz.prog 3 #[.slice L l.length M,.int .i64 room,.slice sa C.length sc,.slice xa xs.length xc] w λe w'=>e=.returned (.bool true)/\Below w.heap.size w w':=by
 obtain⟨x,an⟩:=FM C (⟨#[]⟩,((0,0,⟨#[]⟩),(none,0),[]));obtain⟨m,ao⟩:=FM xs ((0,0,0),((0,0,⟨#[]⟩),(none,0),[]));have aI:(maxLen:Nat)=9223372036854775807:=rfl;have s:∀{h:World}{y o:Nat}{k:Value},Below w.heap.size w h->y<w.heap.size->w.cell? ⟨y,o,none⟩=some k->h.cell? ⟨y,o,none⟩=some k:=λ{h y o k} g j E=>(g.cell (p:=⟨y,o,none⟩) j).trans E
 refine yn L l.length M room sa C.length sc xa xs.length xc (λd=>(m d).1.1) (λd=>(m d).1.2.1) (λd=>(m d).1.2.2) (λd=>(m d).2.1.1) (λd=>(m d).2.1.2.1) (λd=>(m d).2.1.2.2) (λd=>(m d).2.2.1.1) (λd=>(m d).2.2.2.length) (λd=>(m d).2.2.1.2) w
  (λi d h=>JY w (4+d) i h) (sy w) (Hy w) aC (zI w) (λh S=>?_) (λi d h E=>?_) (λi a n c T d h E=>?_) (λi d h G aP u=>?_) (λi h aP u=>?_) (λi a O c T aV last ai h aF u=>Lr u aF) (λi a O c T last ai h u=>Kk u) (λi a O c T last ai h am u g=>Fv u g) (λi a n c T d h G u=>Iv u G)
 ·have ab:=S.size;refine(Az L l.length M room sa C.length sc (λd=>(x d).1) (λd=>(x d).2.1.2.2) (λd=>(x d).2.1.1) (λd=>(x d).2.1.2.1) (λd=>(x d).2.2.1.1) (λd=>(x d).2.2.2.length) (λd=>(x d).2.2.1.2) h (λk W v=>Kb n l room h k W v) (λi d v=>C.length<=4/\JY w d i v) (λk v=>(k=.pointer none/\Below w.heap.size w v)\/∃i,k=.pointer (some ⟨i,0,none⟩)/\JY w (4+0) i v) (by omega) (zU n l L M room h ?_ aH aJ aE) (λk W v R av=>?_) (λk v R Q=>?_) (λi d v G Z=>?_) λi v Z=>?_).mono ?_
  ·have O:=bZ (dH (n+1)) 2 (nr (n+1)) L;exact O.2.2.2.1 _ _ _ _ ab (aG.below S)
  ·exact ae ⟨rfl,S.trans (R.2.1.mono ab)⟩
  ·obtain⟨p,q,rfl,aj,⟨ax,ak,az,aW⟩,aX,aY,aZ,a0⟩:=R.2.2.2 rfl;exact⟨p.b,rfl,Q,p,KL,q,rfl,aj,dC.zero,⟨by omega,by rw[ak];exact aD _,by omega,by omega⟩,S.trans (R.2.1.mono ab),by omega⟩
  ·obtain⟨Q,p,J,q,rfl,t,H,ad,g,A⟩:=Z;obtain⟨y,o,X,j,r,K⟩:=FS aK (an d G);refine⟨y,o,⟨X,s g j (r 0 _ rfl),s g j (r 1 _ rfl),s g j (r 2 _ rfl),s g j (r 3 _ rfl),s g j (r 4 _ rfl)⟩,λam z=>?_⟩;have F:=g.trans (z.mono g.size);refine((t.later z).start (x d).1 (au K.1 (dp aI)) (x d).2 ((K.2.below F).mono F.size) (aL _ (ay (an d G))) (by omega) (by omega)).mono ?_;rintro e w' ⟨k,W,rfl,D⟩;obtain⟨_,P,I,N⟩:=D.out;have Y:=N.below (t.later z) (B:=w.heap.size) A;exact⟨k,W,rfl,Q,p,_,P,rfl,I,H.start _ _ _,by obtain⟨_,_,aj,ax,ak,az⟩:=N;omega,F.trans Y,A⟩
  ·obtain⟨Q,p,J,q,rfl,t,H,ad,g,A⟩:=Z;exact af ⟨_,rfl,p,J,q,rfl,t,H,by omega,g,A⟩
  ·rintro e w' ⟨k,rfl,D⟩;rcases D.out with⟨rfl,g⟩|⟨i,rfl,E⟩
   ·exact ae ⟨rfl,g⟩
   ·exact af ⟨i,rfl,E⟩
 ·obtain⟨p,J,q,_,_,_,_,g,_⟩:=E;exact g
 ·obtain⟨p,J,q,ai,_,_,_,_,g,_⟩:=E;exact g
 ·obtain⟨p,J,q,rfl,t,H,ad,g,A⟩:=u;obtain⟨y,o,X,j,r,K⟩:=FS aN (ao d G);refine⟨y,o,⟨X,s g j (r 0 _ rfl),s g j (r 1 _ rfl),s g j (r 2 _ rfl),s g j (r 3 _ rfl),s g j (r 4 _ rfl),s g j (r 5 _ rfl),s g j (r 6 _ rfl)⟩,λam z=>?_⟩;have F:=g.trans (z.mono g.size);have aw:=K.2.below F;refine((t.later z).do (kd:=(m d).1.1) (a:=(m d).1.2.1) (b:=(m d).1.2.2) ⟨K.1.2.1,K.1.2.2⟩ (m d).2 ⟨aw.mono F.size,(In.offBelow aw).mono λaQ al a1=>?_⟩ (aO _ (ay (ao d G))) (by omega) (by omega) (by omega) (by omega)).mono ?_
  ·have:=(t.low aQ (by omega)).1;omega
  ·rintro e w' ⟨k,rfl,D⟩;obtain⟨_,P,I,N⟩:=D.out;have Y:=N.below (t.later z) (B:=w.heap.size) A;have av:fe 201 402 q P h w':=((dE.later q z).un.trans N).mono (by omega) (by omega);exact⟨k,rfl,p,_,P,rfl,I,H.do _ _ _ _ _,by obtain⟨_,_,aj,ax,ak,az⟩:=av;omega,F.trans Y,A⟩
 ·obtain⟨p,J,q,rfl,t,H,ad,g,A⟩:=u;have ar:q.es.length<=100000:=by omega
  have aa:Below h.heap.size h (h.alloc (.map #[] 0)):=(ah _ _).alloc (ag _) _;have aM:(h.alloc (.map #[] 0)).heap.size=h.heap.size+1:=by simp
  refine((t.later aa).events ar).mono ?_;rintro e w' ⟨a,c,rfl,D⟩;obtain⟨I,N,aB,aR,aS,aA⟩:=D.out;rw[aM]at aA;have ap:=aa.trans (I.mono aa.size);have aU:=I.size;refine⟨a,_,c,rfl,by omega,p,J,q,aB,rfl,t.later ap,H,by omega,⟨g.trans (ap.mono g.size),g.size,by omega,?_⟩,⟨aR,ar,aS,aA⟩,rfl,?_⟩
  ·by_cases al:q.ow h.heap.size=0
   ·exact al
   ·have:=(t.low _ al).2;omega
  ·exact(qk.new (f:=Value.bool) h).kept (I.block h.heap.size (by omega))
theorem sw:(N n:Nat)->n<=N->(x:Tm n)->wt N (aI N n x)=wt n x
 | 0,0,_,_=>rfl
 | N+1,0,_,_=>by simp[aI,wt]
 | N+1,n+1,h,x=>by
  simp only[aI,wt,fu];congr 2;refine iT λy _=>?_;exact sw N n (by omega) y
theorem Hm:(n:Nat)->(x:Tm n)->1<=wt n x
 | 0,_=>by simp[wt]
 | n+1,x=>by simp only[wt];omega
theorem p7{a:Type}(f g:a->Nat)(c:Nat):(l:List a)->(∀y∈l,f y<=g y+c)->(l.map f).sum<=(l.map g).sum+l.length*c
 | [],_=>by simp
 | y::l,h=>by
  have d:=h y (by simp);have e:=p7 f g c l λz b=>h z (by simp[b]);simp only[aH,bt,aW,Nat.add_mul,Nat.one_mul];omega
theorem mr(s:ByteArray)(N:Nat):wt (N+1) (aQ s N)=1+s.size:=by simp[wt,aQ]
theorem nj(N:Nat)(l:List (Tm N)):wt (N+1) (cM N l)=1+(l.map (wt N)).sum:=by simp[wt,cM]
theorem JC(k u:Int)(N:Nat):wt (N+1) (aS k u N)=1:=by simp[wt,aS]
theorem Ho(n:Nat)(a:Ac (n+1)):wt (n+2) (de n a)<=JQ (n+1) a+8:=by
 have f:=Hm (n+1) a.2.1.1;have g:=Hm (n+1) a.2.1.2;have b:iP.size=4:=rfl;have c:jj.size=5:=rfl;have d:mA.size=4:=rfl;have e:mB.size=4:=rfl;unfold de JQ;split
 ·rw[nj];simp only[aH,bQ,bt,iV,mr];omega
 ·split
  ·rw[nj];simp only[aH,bQ,bt,iV,mr,JC];omega
  ·split
   ·rw[nj];simp only[aH,bQ,bt,iV,mr];omega
   ·rw[nj];simp only[aH,bQ,bt,iV,mr];omega
theorem Hq(n:Nat)(c:Cl (n+1))(b:ri (n+1) c=true):wt (n+4) (eD n c)<=JR (n+1) c+68:=by
 have h:B5.size=2:=rfl;have i:c.2.2.length<=8:=by
  simp only[ri,az,bN]at b;omega
 have d:=p7 (λa=>wt (n+2) (de n a)) (JQ (n+1)) 8 c.2.2 λa _=>Ho n a;have e:=sw (n+3) (n+1) (by omega) c.1.1;have f:=sw (n+3) (n+1) (by omega) c.1.2.1;have g:=sw (n+3) (n+1) (by omega) c.1.2.2;unfold eD JR;rw[nj];simp only[aH,bQ,bt,iV,mr,nj,fu,e,f,g];have j:(c.2.2.map (wt (n+2) ∘ de n)).sum<=(c.2.2.map (JQ (n+1))).sum+c.2.2.length*8:=d;omega
theorem Hp(n:Nat)(b:Bh (n+1))(c:sI (n+1) b=true):wt (n+5) (ek n b)<=Hx (n+1) b+413:=by
 have e:nh.size=3:=rfl;simp only[sI,az,bN,bS]at c;have g:(b.2.2.map (wt (n+4) ∘ eD n)).sum<=(b.2.2.map (JR (n+1))).sum+b.2.2.length*68:=p7 (λa=>wt (n+4) (eD n a)) (JR (n+1)) 68 b.2.2 λa d=>Hq n a (c.2 a d);have f:b.2.2.length<=6:=by omega
 unfold ek Hx;rw[nj];simp only[aH,bt,mr,fu];omega
theorem Hr(n:Nat)(p:List (Bh (n+1)))(b:jy (n+1) p=true):wt (n+6) (cR n p)<=(p.map (Hx (n+1))).sum+2897:=by
 have d:iO.size=4:=rfl;simp only[jy,az,bN,bS]at b;have f:(p.map (wt (n+5) ∘ ek n)).sum<=(p.map (Hx (n+1))).sum+p.length*413:=p7 (λa=>wt (n+5) (ek n a)) (Hx (n+1)) 413 p λa c=>Hp n a (b.2 a c);have e:p.length<=7:=by omega
 unfold cR;rw[nj];simp only[aH,bt,mr,fu];omega
theorem zg(n:Nat)(p:List (Bh (n+1)))(a:jy (n+1) p=true)(d:(p.map (Hx (n+1))).sum<=1048576):(aq (n+6) (cR n p)).length<=2097152:=by
 have b:=pO (n+6) (cR n p);have c:=Hr n p a;omega
end Go.Proofs.YtnidfceinoiboaaGreat
