/- What is proved here: plain facts and contracts that the claimed theorem stands on. No condition but those that each names. -/
import Derived.Test.YtmbjgiaebneodaaGreatG42
namespace Go.Proofs.YtmbjgiaebneodaaGreat
open Go.ChangeShapes Go.WideShapes Go.ChangeAt Go.RowKit
open Go.RowKit
set_option maxRecDepth 100000
set_option maxHeartbeats 1000000
def Jt(n:Nat)(a:Ac n):Nat:=wt n a.2.1.1+wt n a.2.1.2+a.2.2.1.size+1
def Ju(n:Nat)(c:Cl n):Nat:=wt n c.1.1+wt n c.1.2.1+wt n c.1.2.2+(c.2.2.map (Jt n)).sum+1
def G9(n:Nat)(b:Bh n):Nat:=b.1.size+(b.2.2.map (Ju n)).sum+1
theorem xF:Tryz.prog.cellsOf 74=11:=by kernel_rfl
theorem qR:Tryz.prog.cellsOf 77=13:=by kernel_rfl
theorem xG:Tryz.prog.cellsOf 80=2:=by kernel_rfl
theorem CO:Tryz.prog.cellsOf 75=1:=by kernel_rfl
theorem vF:Tryz.prog.cellsOf 78=1:=by kernel_rfl
theorem Cm{a H:Type}(g:a->Nat):(p:List a)->(es:List (DataW H))->(∀(i:Nat)(y:a)(e:DataW H),p[i]?=some y->es[i]?=some e->g y<=Rows.uptoBulk e)->p.length=es.length->(p.map g).sum<=Rows.uptoBulkAll es
 | [],es,_,h=>by simp
 | y::p,[],_,h=>by simp at h
 | y::p,e::es,hp,h=>by
  have j:=hp 0 y e (by simp) (by simp);have k:=Cm g p es (λi f b d c=>hp (i+1) f b (by simpa using d) (by simpa using c)) (by simpa using h);simp only[aJ,br,Rows.uptoBulkAll];omega
theorem tB{H q:Type}(enc:TypeId×Value->H)(w:World)(L:Nat->Bool)(k:Nat)(f:q->List Value)(I:q->Prop)(g:q->Nat)(T S:TypeId)(P:Tryz.prog.underlying S=some (.slice T))(ab:Tryz.prog.cellsOf T=k)(am:0<k)(K:∀y,(f y).length=k)(C:Nat)(O:∀(m:Nat)(cs:List Value)(x:DataW H×List MemPlace),m<=C->DataW.trod enc Tryz.prog w 0 L true m T cs=some x->∃y,cs=f y/\I y/\g y<=Rows.uptoBulk x.1)(m:Nat)(aq:m<=C)(v:Value)(x:DataW H×List MemPlace)(j:DataW.trod enc Tryz.prog w 0 L true m S [v]=some x):∃a l c,v=.slice a l.length c/\l.length<=c/\c<=maxLen/\nX w.heap.size w k f I a l/\(l.map g).sum+1<=Rows.uptoBulk x.1:=by
 rcases DataW.trod_slice P j with⟨d,rfl⟩|⟨a,len,cap,r,aw,ai,rfl,d,rfl,_,ap,V,al,s,_,_⟩
 ·simp at d;subst d;exact⟨none,[],0,rfl,ag _,aD _,ae rfl,by simp[Rows.uptoBulk]⟩
 ·simp at d;subst d;simp only[ab]at s;have key:∀e,e<len->∃y:q,(∃b o,a=⟨b,o,none⟩/\b<w.heap.size/\∀(h:Nat)(i:Value),(f y)[h]?=some i->w.cell? ⟨b,o+e*k+h,none⟩=some i)/\I y/\∀d,(r.map (·.1))[e]?=some d->g y<=Rows.uptoBulk d:=by
   intro e Z;have F:=s e Z;have G:=s 0 (by omega);rw[az (by omega)]at F G;obtain⟨M,W,ad⟩:=bz.1 F;obtain⟨N,X,au⟩:=bz.1 G;obtain⟨_,an,R⟩:=nM W;obtain⟨_,ao,U⟩:=nM X;obtain⟨y,rfl,u,t⟩:=O ai M _ (by omega) ad;have D:=vj (w:=w) (a:=a) (v:=N[0]'(by omega)) (by have:=U 0 (by omega);rw[az (by omega)]at this;simpa using this);have Q:∀h,(a.add (e*k)).add h=⟨a.block,a.off+e*k+h,none⟩:=λh=>by
    have:=BO a.block a.off (e*k) h;rw[<-D]at this;exact this
   have E:∀(h:Nat)(i:Value),(f y)[h]?=some i->w.cell? ⟨a.block,a.off+e*k+h,none⟩=some i:=λh i J=>by
    have aa:=(aK.1 J).1;have:=R h (by rw[K]at aa;omega);rw[Q,J]at this;exact this
   obtain⟨aj,ah⟩:∃i,(f y)[0]?=some i:=⟨(f y)[0]'(by rw[K];omega),az _⟩;refine⟨y,⟨a.block,a.off,D,lw w ⟨a.block,a.off+e*k+0,none⟩ (E 0 aj ah),E⟩,u,λd n=>?_⟩;rw[df,az (by omega)]at n;have:(r[e]).1=d:=by simpa using n
   rw[<-this];exact t
  obtain⟨B,p,z⟩:=vW len key;refine⟨some a,B,cap,by rw[p],by omega,V,?_,?_⟩
  ·rcases Nat.eq_zero_or_pos len with j|j
   ·exact ae (bL (p.trans j))
   ·obtain⟨⟨b,o,rfl,t,_⟩,_,_⟩:=z 0 (B[0]'(by rw[p];exact j)) (az (by rw[p];exact j));refine af ⟨b,o,rfl,t,λe y A=>?_⟩;obtain⟨⟨ak,av,d,_,Y⟩,u,_⟩:=z e y A;simp at d;obtain⟨rfl,rfl⟩:=d;exact⟨Y,u⟩
  ·have ar:=Cm g B (r.map (·.1)) (λe y d A n=>(z e y A).2.2 d n) (by simp;omega);simp only[Rows.uptoBulk];omega
theorem lP{H:Type}(enc:TypeId×Value->H)(w:World)(a:Nat->Bool)(n m:Nat)(f:m<=n)(cs:List Value)(x:DataW H×List MemPlace)(b:DataW.trod enc Tryz.prog w 0 a true m 30 cs=some x):∃t:Tm (n+1),cs=f8 (n+1) t/\In w.heap.size w (n+1) t/\wt (n+1) t<=Rows.uptoBulk x.1:=by
 obtain⟨t,c,d,e⟩:=I6 enc w a n m (by omega) cs x b;exact⟨t,c,d,e⟩
theorem JO{H:Type}(enc:TypeId×Value->H)(w:World)(b:Nat->Bool)(n m:Nat)(Y:m<=n)(cs:List Value)(x:DataW H×List MemPlace)(M:DataW.trod enc Tryz.prog w 0 b true m 74 cs=some x):∃a:Ac (n+1),cs=fm (n+1) a/\gE (n+1) w.heap.size w a/\Jt (n+1) a<=Rows.uptoBulk x.1:=by
 obtain⟨c,m,rfl,rfl,G,N,o⟩:=j0 Tryz.underlying74 M;have B:DataW.trod enc Tryz.prog w 0 b true m 3 ((cs.drop 0).take (Tryz.prog.cellsOf 3))=c[0]? :=o 0 _ rfl;have C:DataW.trod enc Tryz.prog w 0 b true m 30 ((cs.drop 1).take (Tryz.prog.cellsOf 30))=c[1]? :=o 1 _ rfl;have D:DataW.trod enc Tryz.prog w 0 b true m 30 ((cs.drop 5).take (Tryz.prog.cellsOf 30))=c[2]? :=o 2 _ rfl;have E:DataW.trod enc Tryz.prog w 0 b true m 9 ((cs.drop 9).take (Tryz.prog.cellsOf 9))=c[3]? :=o 3 _ rfl;have F:DataW.trod enc Tryz.prog w 0 b true m 3 ((cs.drop 10).take (Tryz.prog.cellsOf 3))=c[4]? :=o 4 _ rfl;rw[sq]at B F;rw[jp]at C D;rw[ki]at E;rw[xF]at G;obtain⟨r,d,e,f,g,h,i,j,l,u,s,rfl⟩:∃r d e f g h i j l u s,cs=[r,d,e,f,g,h,i,j,l,u,s]:=by
  match cs,G with
  | [r,d,e,f,g,h,i,j,l,u,s],_=>exact⟨r,d,e,f,g,h,i,j,l,u,s,rfl⟩
 obtain⟨y0,y1,y2,p,q,rfl⟩:∃y0 y1 y2 p q,c=[y0,y1,y2,p,q]:=by
  match c,N with
  | [y0,y1,y2,p,q],_=>exact⟨y0,y1,y2,p,q,rfl⟩
 obtain⟨k,y,T,Q⟩:=jZ Tryz.underlying3 (x:=y0) (by simpa using B);obtain⟨J,A,V,S⟩:=jZ Tryz.underlying3 (x:=q) (by simpa using F);obtain⟨v,z,U,R⟩:=nE Tryz.underlying9 (x:=p) (by simpa using E);obtain⟨t,K,O,W⟩:=lP enc w b n m (by omega) [d,e,f,g] y1 (by simpa using C);obtain⟨I,L,P,X⟩:=lP enc w b n m (by omega) [h,i,j,l] y2 (by simpa using D);simp at y z A;subst y z A T U V;refine⟨(k,(t,I),(v,J)),?_,⟨xg Q,O,P,R,xg S⟩,?_⟩
 ·show _=.int .i64 k::(f8 (n+1) t++f8 (n+1) I++ [.string v,.int .i64 J]);rw[<-K,<-L];rfl
 ·have es:v.data.toList.length=v.size:=by rw[gn];rfl
  simp only[Jt,Rows.uptoBulk,Rows.uptoBulkAll,aJ,bP];omega
theorem CR{H:Type}(enc:TypeId×Value->H)(w:World)(b:Nat->Bool)(n m:Nat)(F:m<=n)(cs:List Value)(x:DataW H×List MemPlace)(z:DataW.trod enc Tryz.prog w 0 b true m 77 cs=some x):∃a:Cl (n+1),cs=et (n+1) a/\fW (n+1) w.heap.size w a/\Ju (n+1) a<=Rows.uptoBulk x.1:=by
 obtain⟨d,m,rfl,rfl,E,Q,y⟩:=j0 Tryz.underlying77 z;have A:DataW.trod enc Tryz.prog w 0 b true m 30 ((cs.drop 0).take (Tryz.prog.cellsOf 30))=d[0]? :=y 0 _ rfl;have B:DataW.trod enc Tryz.prog w 0 b true m 30 ((cs.drop 4).take (Tryz.prog.cellsOf 30))=d[1]? :=y 1 _ rfl;have C:DataW.trod enc Tryz.prog w 0 b true m 75 ((cs.drop 8).take (Tryz.prog.cellsOf 75))=d[2]? :=y 2 _ rfl;have D:DataW.trod enc Tryz.prog w 0 b true m 30 ((cs.drop 9).take (Tryz.prog.cellsOf 30))=d[3]? :=y 3 _ rfl;rw[jp]at A B D;rw[CO]at C;rw[qR]at E;obtain⟨e,f,j,k,o,p,q,r,s,u,g,h,i,rfl⟩:∃e f j k o p q r s u g h i,cs=[e,f,j,k,o,p,q,r,s,u,g,h,i]:=by
  match cs,E with
  | [e,f,j,k,o,p,q,r,s,u,g,h,i],_=>exact⟨e,f,j,k,o,p,q,r,s,u,g,h,i,rfl⟩
 obtain⟨y0,y1,y2,v,rfl⟩:∃y0 y1 y2 v,d=[y0,y1,y2,v]:=by
  match d,Q with
  | [y0,y1,y2,v],_=>exact⟨y0,y1,y2,v,rfl⟩
 obtain⟨t,J,R,U⟩:=lP enc w b n m (by omega) [e,f,j,k] y0 (by simpa using A);obtain⟨G,K,S,V⟩:=lP enc w b n m (by omega) [o,p,q,r] y1 (by simpa using B);obtain⟨I,M,T,W⟩:=lP enc w b n m (by omega) [u,g,h,i] v (by simpa using D);obtain⟨a,l,c,L,O,N,P,X⟩:=tB enc w b 11 (fm (n+1)) (gE (n+1) w.heap.size w) (Jt (n+1)) 74 75 Tryz.underlying75 xF (by omega) (λ_=>rfl) n (λm cs x F z=>JO enc w b n m F cs x z) m (by omega) s y2 (by simpa using C);subst L;refine⟨((t,G,I),(a,c),l),?_,⟨⟨R,S,T⟩,⟨O,N⟩,P⟩,?_⟩
 ·show _=f8 (n+1) t++f8 (n+1) G++(.slice a l.length c::f8 (n+1) I);rw[<-J,<-K,<-M];rfl
 ·simp only[Ju,Rows.uptoBulk,Rows.uptoBulkAll,aJ,bP];omega
theorem JQ{H:Type}(enc:TypeId×Value->H)(w:World)(d:Nat->Bool)(n m:Nat)(q:m<=n)(cs:List Value)(x:DataW H×List MemPlace)(g:DataW.trod enc Tryz.prog w 0 d true m 80 cs=some x):∃a:Bh (n+1),cs=mW (n+1) a/\nQ (n+1) w.heap.size w a/\G9 (n+1) a<=Rows.uptoBulk x.1:=by
 obtain⟨f,m,rfl,rfl,p,v,o⟩:=j0 Tryz.underlying80 g;have j:DataW.trod enc Tryz.prog w 0 d true m 9 ((cs.drop 0).take (Tryz.prog.cellsOf 9))=f[0]? :=o 0 _ rfl;have k:DataW.trod enc Tryz.prog w 0 d true m 78 ((cs.drop 1).take (Tryz.prog.cellsOf 78))=f[1]? :=o 1 _ rfl;rw[ki]at j;rw[vF]at k;rw[xG]at p;obtain⟨e,b,rfl⟩:∃e b,cs=[e,b]:=by
  match cs,p with
  | [e,b],_=>exact⟨e,b,rfl⟩
 obtain⟨y0,y1,rfl⟩:∃y0 y1,f=[y0,y1]:=by
  match f,v with
  | [y0,y1],_=>exact⟨y0,y1,rfl⟩
 obtain⟨h,i,z,y⟩:=nE Tryz.underlying9 (x:=y0) (by simpa using j);obtain⟨a,l,c,r,t,s,u,A⟩:=tB enc w d 13 (et (n+1)) (fW (n+1) w.heap.size w) (Ju (n+1)) 77 78 Tryz.underlying78 qR (by omega) (λ_=>rfl) n (λm cs x q g=>CR enc w d n m q cs x g) m (by omega) b y1 (by simpa using k);simp at i;subst i z r;refine⟨(h,(a,c),l),rfl,⟨y,⟨t,s⟩,u⟩,?_⟩;have es:h.data.toList.length=h.size:=by rw[gn];rfl
 simp only[G9,Rows.uptoBulk,Rows.uptoBulkAll,aJ,bP];omega
theorem DF{H:Type}{enc:TypeId×Value->H}{W:World}{r:Reach}{g:Nat}{v:Value}{d:DataW H}{p:List MemPlace}(u:Value.okWide Tryz.prog W r g 22 v)(b:DataW.Trod enc Tryz.prog W 0 (λ_=>true) true 22 v d p):∃n,∃l:List (Bh (n+1)),∃a c,v=.slice a l.length c/\l.length<=c/\c<=maxLen/\fl (n+1) W.heap.size W a l/\(l.map (G9 (n+1))).sum<=Rows.uptoBulk d:=by
 obtain⟨a,len,cap,rfl⟩:=okWide_slice Tryz.underlying22 u;obtain⟨f,q⟩:=b;have s:DataW.trod enc Tryz.prog W 0 (λ_=>true) true f 22 [.slice a len cap]=some (d,p):=q;obtain⟨e,l,c,i,j,k,m,o⟩:=tB enc W (λ_=>true) 2 (mW (f+1)) (nQ (f+1) W.heap.size W) (G9 (f+1)) 80 22 Tryz.underlying22 xG (by omega) (λ_=>rfl) f (λw h x t b=>JQ enc W _ f w t h x b) f (ag _) _ _ s;exact⟨f,l,e,c,i,j,k,m,by simp only at o;omega⟩
abbrev Sk(n:Nat):Type:=ByteArray×Tm (n+1)
def Lj(n:Nat)(c:Sk n):List Value:=.string c.1::f8 (n+1) c.2
def Jd(n:Nat)(c:Sk n):Nat:=wt (n+1) c.2+1
def Hd(n:Nat)(B:Nat)(w:World)(c:Sk n):Prop:=c.1.size<=maxLen/\In B w (n+1) c.2
abbrev Hn(n:Nat):Type:=(Int×Int×Int)×Tm (n+1)
def KU(n:Nat)(c:Hn n):List Value:=.int .i64 c.1.1::.int .i64 c.1.2.1::.int .i64 c.1.2.2::f8 (n+1) c.2
def GY(n:Nat)(c:Hn n):Nat:=wt (n+1) c.2+1
def CC(n:Nat)(B:Nat)(w:World)(c:Hn n):Prop:=(cY c.1.1/\cY c.1.2.1/\cY c.1.2.2)/\In B w (n+1) c.2
theorem sr:Tryz.prog.cellsOf 51=5:=by kernel_rfl
theorem ph:Tryz.prog.cellsOf 32=7:=by kernel_rfl
theorem Gr{H:Type}(enc:TypeId×Value->H)(w:World)(g:Nat->Bool)(n m:Nat)(A:m<=n)(cs:List Value)(x:DataW H×List MemPlace)(r:DataW.trod enc Tryz.prog w 0 g true m 51 cs=some x):∃a:Sk n,cs=Lj n a/\Hd n w.heap.size w a/\Jd n a<=Rows.uptoBulk x.1:=by
 obtain⟨h,m,rfl,rfl,o,s,l⟩:=j0 Tryz.underlying51 r;have j:DataW.trod enc Tryz.prog w 0 g true m 9 ((cs.drop 0).take (Tryz.prog.cellsOf 9))=h[0]? :=l 0 _ rfl;have k:DataW.trod enc Tryz.prog w 0 g true m 30 ((cs.drop 1).take (Tryz.prog.cellsOf 30))=h[1]? :=l 1 _ rfl;rw[ki]at j;rw[jp]at k;rw[sr]at o;obtain⟨f,b,c,d,e,rfl⟩:∃f b c d e,cs=[f,b,c,d,e]:=by
  match cs,o with
  | [f,b,c,d,e],_=>exact⟨f,b,c,d,e,rfl⟩
 obtain⟨y0,y1,rfl⟩:∃y0 y1,h=[y0,y1]:=by
  match h,s with
  | [y0,y1],_=>exact⟨y0,y1,rfl⟩
 obtain⟨p,i,y,v⟩:=nE Tryz.underlying9 (x:=y0) (by simpa using j);obtain⟨t,q,u,z⟩:=lP enc w g n m (by omega) [b,c,d,e] y1 (by simpa using k);simp at i;subst i y;refine⟨(p,t),?_,⟨v,u⟩,?_⟩
 ·show _=.string p::f8 (n+1) t;rw[<-q]
 ·simp only[Jd,Rows.uptoBulk,Rows.uptoBulkAll,aJ,bP];omega
theorem Az{H:Type}(enc:TypeId×Value->H)(w:World)(c:Nat->Bool)(n m:Nat)(N:m<=n)(cs:List Value)(x:DataW H×List MemPlace)(C:DataW.trod enc Tryz.prog w 0 c true m 32 cs=some x):∃a:Hn n,cs=KU n a/\CC n w.heap.size w a/\GY n a<=Rows.uptoBulk x.1:=by
 obtain⟨d,m,rfl,rfl,A,D,p⟩:=j0 Tryz.underlying32 C;have u:DataW.trod enc Tryz.prog w 0 c true m 3 ((cs.drop 0).take (Tryz.prog.cellsOf 3))=d[0]? :=p 0 _ rfl;have v:DataW.trod enc Tryz.prog w 0 c true m 3 ((cs.drop 1).take (Tryz.prog.cellsOf 3))=d[1]? :=p 1 _ rfl;have y:DataW.trod enc Tryz.prog w 0 c true m 3 ((cs.drop 2).take (Tryz.prog.cellsOf 3))=d[2]? :=p 2 _ rfl;have z:DataW.trod enc Tryz.prog w 0 c true m 30 ((cs.drop 3).take (Tryz.prog.cellsOf 30))=d[3]? :=p 3 _ rfl;rw[sq]at u v y;rw[jp]at z;rw[ph]at A;obtain⟨j,l,o,e,f,g,h,rfl⟩:∃j l o e f g h,cs=[j,l,o,e,f,g,h]:=by
  match cs,A with
  | [j,l,o,e,f,g,h],_=>exact⟨j,l,o,e,f,g,h,rfl⟩
 obtain⟨y0,y1,y2,i,rfl⟩:∃y0 y1 y2 i,d=[y0,y1,y2,i]:=by
  match d,D with
  | [y0,y1,y2,i],_=>exact⟨y0,y1,y2,i,rfl⟩
 obtain⟨k,q,J,F⟩:=jZ Tryz.underlying3 (x:=y0) (by simpa using u);obtain⟨a,r,K,G⟩:=jZ Tryz.underlying3 (x:=y1) (by simpa using v);obtain⟨b,s,L,I⟩:=jZ Tryz.underlying3 (x:=y2) (by simpa using y);obtain⟨t,B,E,M⟩:=lP enc w c n m (by omega) [e,f,g,h] i (by simpa using z);simp at q r s;subst q r s J K L;refine⟨((k,a,b),t),?_,⟨⟨xg F,xg G,xg I⟩,E⟩,?_⟩
 ·show _=.int .i64 k::.int .i64 a::.int .i64 b::f8 (n+1) t;rw[<-B]
 ·simp only[GY,Rows.uptoBulk,Rows.uptoBulkAll,aJ,bP];omega
theorem yQ{H:Type}{enc:TypeId×Value->H}{W:World}{r:Reach}{g:Nat}{v:Value}{d:DataW H}{p:List MemPlace}(u:Value.okWide Tryz.prog W r g 23 v)(b:DataW.Trod enc Tryz.prog W 0 (λ_=>true) true 23 v d p):∃n,∃l:List (Sk n),∃a c,v=.slice a l.length c/\l.length<=c/\c<=maxLen/\nX W.heap.size W 5 (Lj n) (Hd n W.heap.size W) a l/\(l.map (Jd n)).sum<=Rows.uptoBulk d:=by
 obtain⟨a,len,cap,rfl⟩:=okWide_slice Tryz.underlying23 u;obtain⟨f,q⟩:=b;have s:DataW.trod enc Tryz.prog W 0 (λ_=>true) true f 23 [.slice a len cap]=some (d,p):=q;obtain⟨e,l,c,i,j,k,m,o⟩:=tB enc W (λ_=>true) 5 (Lj f) (Hd f W.heap.size W) (Jd f) 51 23 Tryz.underlying23 sr (by omega) (λ_=>rfl) f (λw h x t b=>Gr enc W _ f w t h x b) f (ag _) _ _ s;exact⟨f,l,e,c,i,j,k,m,by simp only at o;omega⟩
theorem pI{H:Type}{enc:TypeId×Value->H}{W:World}{r:Reach}{g:Nat}{v:Value}{d:DataW H}{p:List MemPlace}(u:Value.okWide Tryz.prog W r g 24 v)(b:DataW.Trod enc Tryz.prog W 0 (λ_=>true) true 24 v d p):∃n,∃l:List (Hn n),∃a c,v=.slice a l.length c/\l.length<=c/\c<=maxLen/\nX W.heap.size W 7 (KU n) (CC n W.heap.size W) a l/\(l.map (GY n)).sum<=Rows.uptoBulk d:=by
 obtain⟨a,len,cap,rfl⟩:=okWide_slice Tryz.underlying24 u;obtain⟨f,q⟩:=b;have s:DataW.trod enc Tryz.prog W 0 (λ_=>true) true f 24 [.slice a len cap]=some (d,p):=q;obtain⟨e,l,c,i,j,k,m,o⟩:=tB enc W (λ_=>true) 7 (KU f) (CC f W.heap.size W) (GY f) 32 24 Tryz.underlying24 ph (by omega) (λ_=>rfl) f (λw h x t b=>Az enc W _ f w t h x b) f (ag _) _ _ s;exact⟨f,l,e,c,i,j,k,m,by simp only at o;omega⟩
theorem yT{b:Type}(f:b->Nat)(l:List b)(y:b)(a:y∈l):f y<=(l.map f).sum:=by
 induction l with
 | nil=>cases a
 | cons c l ih=>
  simp only[aJ,br];rcases bF.1 a with rfl|a
  ·omega
  ·have:=ih a;omega
theorem pJ{b:Type}(f:b->Nat)(a:∀y,1<=f y):(l:List b)->l.length<=(l.map f).sum
 | []=>aD _
 | y::l=>by
  have:=pJ f a l;have:=a y;simp only[aJ,br,aZ];omega
theorem AL{d:Type}{B k:Nat}{f:d->List Value}{I:d->Prop}{a:Option Addr}{l:List d}{w:World}(b:nX B w k f I a l){j:Nat}{y:d}(c:l[j]?=some y):∃g o,a=some ⟨g,o,none⟩/\g<B/\(∀(t:Nat)(u:Value),(f y)[t]?=some u->w.cell? ⟨g,o+j*k+t,none⟩=some u)/\I y:=by
 rcases b with b|⟨g,o,e,h,b⟩
 ·rw[b]at c;simp at c
 ·exact⟨g,o,e,h,(b j y c).1,(b j y c).2⟩
theorem Ay{a:Type}(l:List a)(d:a):∃b:Nat->a,∀j,j<l.length->l[j]?=some (b j):=⟨λj=>l.getD j d,λj c=>by
 simp only[nH,az c]
 rfl⟩
def JG(w0:World)(i a:Nat)(W:World):Prop:=∃(p:mg)(s:Sy)(d:fX),p.b=a/\aV p s d W/\(d.k<=i*402/\d.es.length<=i*201/\d.wn<=i*201/\d.bn<=i*201)/\Below w0.heap.size w0 W/\w0.heap.size<=p.lo
def Ls(w0:World)(i g:Nat)(a:Option Addr)(L:Nat)(W:World):Prop:=∃(p:mg)(s:Sy)(d:fX)(e:List (ByteArray×Int×Int×Tc))(f:Nat)(c:World)(d1:fX),p.b=g/\aV p s d W/\(d.k<=i*402/\d.es.length<=i*201/\d.wn<=i*201/\d.bn<=i*201)/\(Below w0.heap.size w0 W/\w0.heap.size<=p.lo)/\e.length=L/\(∃r,s.evs=e.map CZ++r)/\nW f a e c/\bi (λq=>d1.ow q≠0) c W/\(∀q,q<c.heap.size->d.ow q=d1.ow q)/\∀q,f<=q->q<c.heap.size->d1.ow q=0
theorem Jo{w0 W:World}{p:mg}{s:Sy}{d:fX}{i:Nat}(h:aV p s d W)(D:d.k<=i*402/\d.es.length<=i*201/\d.wn<=i*201/\d.bn<=i*201)(C:i<=110)(o:Below w0.heap.size w0 W)(y:w0.heap.size<=p.lo){n:Nat}(c:Hn n)(l:CC n w0.heap.size w0 c)(x:(ap (n+1) c.2).length<=2097152)(m:World)(g:Below W.heap.size W m):Calls Tryz.prog 6 #[.pointer (some ⟨p.b,0,none⟩),.agg #[.int .i64 c.1.1,.int .i64 c.1.2.1,.int .i64 c.1.2.2,.int .i64 c.2.1.1,.int .i64 c.2.1.2.1,.string c.2.1.2.2,.slice c.2.2.1.1 c.2.2.2.length c.2.2.1.2]] m λe w'=>∃v,e=.returned (.int .i64 v)/\Hid (∃t f,aV p t f w'/\s.more t/\eT 201 402 d f W w'/\Below w0.heap.size w0 w'):=by
 have j:=o.trans (g.mono o.size);have q:=l.2.below j;refine((h.later g).do (kd:=c.1.1) (a:=c.1.2.1) (b:=c.1.2.2) ⟨l.1.2.1,l.1.2.2⟩ c.2 ⟨q.mono j.size,(In.offBelow q).mono λA E F=>?_⟩ x (by omega) (by omega) (by omega) (by omega)).mono ?_
 ·have:=(h.low A (by omega)).1;omega
 ·rintro e w' ⟨v,rfl,u⟩;obtain⟨_,f,z,r⟩:=u.out;have w:=r.below (h.later g) (B:=w0.heap.size) y;exact⟨v,rfl,_,f,z,Iv _ _ _ _ _ _ _ _ _,((dB.later d g).un.trans r).mono (by omega) (by omega),j.trans w⟩
theorem Fu(n:Nat)(l:List (Bh (n+1)))(T:Option Addr)(U:Nat)(room:Int)(ah:Nat)(L:List (Sk ah))(sa:Option Addr)(sc:Nat)(ai:Nat)(xs:List (Hn ai))(xa:Option Addr)(xc:Nat)(aj:Nat)(ms:List (Hn aj))(ma:Option Addr)(aR:Nat)(w:World)(aY:fl (n+1) w.heap.size w T l)(aZ:l.length<=U)(a3:U<=maxLen)(aX:jm (n+1) l=true->(ap (n+6) (cO n l)).length<=2097152)(a4:nX w.heap.size w 5 (Lj ah) (Hd ah w.heap.size w) sa L)(a5:∀c∈L,(ap (ah+1) c.2).length<=2097152)(a6:nX w.heap.size w 7 (KU ai) (CC ai w.heap.size w) xa xs)(a7:∀c∈xs,(ap (ai+1) c.2).length<=2097152)(a0:nX w.heap.size w 7 (KU aj) (CC aj w.heap.size w) ma ms)(a1:∀c∈ms,(ap (aj+1) c.2).length<=2097152)(bf:L.length<=1048576)(aT:xs.length<=1048576)(aU:ms.length<=1048576):Calls Tryz.prog 3 #[.slice T l.length U,.int .i64 room,.slice sa L.length sc,.slice xa xs.length xc,.slice ma ms.length aR] w λe w'=>e=.returned (.bool true)/\Below w.heap.size w w':=by
 obtain⟨E,aO⟩:=Ay L (⟨#[]⟩,((0,0,⟨#[]⟩),(none,0),[]));obtain⟨A,aP⟩:=Ay xs ((0,0,0),((0,0,⟨#[]⟩),(none,0),[]));obtain⟨y,aN⟩:=Ay ms ((0,0,0),((0,0,⟨#[]⟩),(none,0),[]));have a2:(maxLen:Nat)=9223372036854775807:=rfl;have j:∀{f:World}{v o:Nat}{k:Value},Below w.heap.size w f->v<w.heap.size->w.cell? ⟨v,o,none⟩=some k->f.cell? ⟨v,o,none⟩=some k:=λ{f v o k} d g O=>(d.cell (p:=⟨v,o,none⟩) g).trans O
 refine Da T l.length U room sa L.length sc xa xs.length xc ma ms.length aR (λa=>(A a).1.1) (λa=>(A a).1.2.1) (λa=>(A a).1.2.2) (λa=>(A a).2.1.1) (λa=>(A a).2.1.2.1) (λa=>(A a).2.1.2.2) (λa=>(A a).2.2.1.1) (λa=>(A a).2.2.2.length) (λa=>(A a).2.2.1.2) (λa=>(y a).1.1) (λa=>(y a).1.2.1) (λa=>(y a).1.2.2) (λa=>(y a).2.1.1) (λa=>(y a).2.1.2.1) (λa=>(y a).2.1.2.2) (λa=>(y a).2.2.1.1) (λa=>(y a).2.2.2.length) (λa=>(y a).2.2.1.2) w
  (λi a f=>JG w (4+a) i f) (λi C q c a f=>Ls w (4+xs.length+a) i C q f) (λi C q c R Z V f=>Below w.heap.size w f/\∃M av u N,nW M C u f/\nW av R N f/\u.length=q/\N.length=Z/\q<=Z/\q<=100000/\(N.map CZ).take q=u.map CZ) aT aU (zk w) (λf ag=>?_) (λi a f O=>?_) (λi C q c R Z V f O=>O.1) (λi a f H aE F=>?_) (λi f aE F=>?_) (λi C q c a f H aE F=>?_) (λi C q c f aE F=>?_) λi C q c R Z V f F=>?_
 ·have aB:=ag.size;refine(Ae T l.length U room sa L.length sc (λa=>(E a).1) (λa=>(E a).2.1.2.2) (λa=>(E a).2.1.1) (λa=>(E a).2.1.2.1) (λa=>(E a).2.2.1.1) (λa=>(E a).2.2.2.length) (λa=>(E a).2.2.1.2) f (λk am z=>JL n l room f k am z) (λi a z=>L.length<=4/\JG w a i z) (λk z=>(k=.pointer none/\Below w.heap.size w z)\/∃i,k=.pointer (some ⟨i,0,none⟩)/\JG w (4+0) i z) (by omega) (zB n l T U room f ?_ aZ a3 aX) (λk am z ad bh=>?_) (λk z ad ab=>?_) (λi a z H aw=>?_) λi z aw=>?_).mono ?_
  ·have q:=bZ (dF (n+1)) 2 (mW (n+1)) T;exact q.2.2.2.1 _ _ _ _ aB (aY.below ag)
  ·exact ae ⟨rfl,ag.trans (ad.2.1.mono aB)⟩
  ·obtain⟨p,m,rfl,ak,⟨aF,al,aG,bj⟩,bl,bm,bn,bo⟩:=ad.2.2.2 rfl;exact⟨p.b,rfl,ab,p,Kl,m,rfl,ak,⟨by omega,by rw[al];exact aD _,by omega,by omega⟩,ag.trans (ad.2.1.mono aB),by omega⟩
  ·obtain⟨ab,p,K,m,rfl,r,Q,d,s⟩:=aw;obtain⟨v,o,X,g,h,S⟩:=AL a4 (aO a H);refine⟨v,o,⟨X,j d g (h 0 _ rfl),j d g (h 1 _ rfl),j d g (h 2 _ rfl),j d g (h 3 _ rfl),j d g (h 4 _ rfl)⟩,λaa P=>?_⟩;have ay:=d.trans (P.mono d.size);refine((r.later P).start (E a).1 (au S.1 (di a2)) (E a).2 ((S.2.below ay).mono ay.size) (a5 _ (ax (aO a H))) (by omega) (by omega)).mono ?_;rintro e w' ⟨k,am,rfl,t⟩;obtain⟨_,W,x,I⟩:=t.out;have aV:=I.below (r.later P) (B:=w.heap.size) s;exact⟨k,am,rfl,ab,p,_,W,rfl,x,by obtain⟨_,_,ak,aF,al,aG⟩:=I;omega,ay.trans aV,s⟩
  ·obtain⟨ab,p,K,m,rfl,r,Q,d,s⟩:=aw;exact af ⟨_,rfl,p,K,m,rfl,r,by omega,d,s⟩
  ·rintro e w' ⟨k,rfl,t⟩;rcases t.out with⟨rfl,d⟩|⟨i,rfl,O⟩
   ·exact ae ⟨rfl,d⟩
   ·exact af ⟨i,rfl,O⟩
 ·obtain⟨p,K,m,_,_,_,d,_⟩:=O;exact d
 ·obtain⟨p,K,m,rfl,r,Q,d,s⟩:=F;obtain⟨v,o,X,g,h,S⟩:=AL a6 (aP a H);refine⟨v,o,⟨X,j d g (h 0 _ rfl),j d g (h 1 _ rfl),j d g (h 2 _ rfl),j d g (h 3 _ rfl),j d g (h 4 _ rfl),j d g (h 5 _ rfl),j d g (h 6 _ rfl)⟩,λaa P=>?_⟩;refine(Jo r Q (by omega) d s (A a) S (a7 _ (ax (aP a H))) aa P).mono ?_;rintro e w' ⟨k,rfl,t⟩;obtain⟨aI,W,x,I,D,J⟩:=t.out;exact⟨k,rfl,p,aI,W,rfl,x,by obtain⟨_,_,ak,aF,al,aG⟩:=D;omega,J,s⟩
 ·obtain⟨p,K,m,rfl,r,Q,d,s⟩:=F;have az:m.es.length<=100000:=by omega
  refine(r.events az).mono ?_;rintro e w' ⟨C,c,rfl,t⟩;obtain⟨x,I,u,D,J,aH⟩:=t.out;refine⟨C,_,c,rfl,by omega,p,K,m,u,f.heap.size,w',m,rfl,r.later x,by omega,⟨d.trans (x.mono d.size),s⟩,D,⟨[],by rw[J,dL]⟩,aH,bi.refl _ _,λ_ _=>rfl,λG Y _=>?_⟩;by_cases ar:m.ow G=0
  ·exact ar
  ·have:=(r.low G ar).2;omega
 ·obtain⟨p,K,m,u,M,aM,d1,rfl,r,Q,⟨d,s⟩,an,⟨aS,ao⟩,aJ,aq,aK,aL⟩:=F;obtain⟨v,o,X,g,h,S⟩:=AL a0 (aN a H);refine⟨v,o,⟨X,j d g (h 0 _ rfl),j d g (h 1 _ rfl),j d g (h 2 _ rfl),j d g (h 3 _ rfl),j d g (h 4 _ rfl),j d g (h 5 _ rfl),j d g (h 6 _ rfl)⟩,λaa P=>?_⟩;refine(Jo r Q (by omega) d s (y a) S (a1 _ (ax (aN a H))) aa P).mono ?_;rintro e w' ⟨k,rfl,t⟩;obtain⟨aI,W,x,⟨a8,I⟩,D,J⟩:=t.out;have bg:=aq.size;exact⟨k,rfl,p,aI,W,u,M,aM,d1,rfl,x,by obtain⟨_,_,ak,aF,al,aG⟩:=D;omega,⟨J,s⟩,an,⟨aS++a8,by rw[I,ao,gY]⟩,aJ,aq.trans D.1 λG aA Y=>by rw[aK G aA]at Y;exact Y,λG aA=>(D.2.1 G (by omega)).trans (aK G aA),aL⟩
 ·obtain⟨p,K,m,u,M,aM,d1,rfl,r,Q,⟨d,s⟩,an,⟨aS,ao⟩,aJ,aq,aK,aL⟩:=F;have az:m.es.length<=100000:=by omega
  refine(r.events az).mono ?_;rintro e w' ⟨R,V,rfl,t⟩;obtain⟨x,I,N,D,J,aH⟩:=t.out;have aQ:q<=m.es.length:=by
   rw[<-D,<-an];have:=congrArg List.length (J.trans ao);simp only[aW,dN]at this;omega
  refine⟨R,_,V,rfl,⟨aQ,by omega,I⟩,d.trans (x.mono d.size),M,f.heap.size,u,N,?_,aH,an,D,aQ,by omega,?_⟩
  ·exact aJ.kee (aq.trans (aC x λ_=>False) λ_ _ Y=>Y.elim) λG bd ar be=>be (aL G bd ar)
  ·rw[J,ao,gz (by rw[dN];omega),bk (by rw[dN];omega)]
 ·obtain⟨_,M,av,u,N,a9,ba,bb,bp,bq,br,bc⟩:=F;exact Be av M R C V c q N u f ba a9 ⟨by omega,bb⟩ (by omega) bc
theorem rZ:(N n:Nat)->n<=N->(x:Tm n)->wt N (aH N n x)=wt n x
 | 0,0,_,_=>rfl
 | N+1,0,_,_=>by simp[aH,wt]
 | N+1,n+1,h,x=>by
  simp only[aH,wt,g8];congr 2;refine lg λy _=>?_;exact rZ N n (by omega) y
theorem GZ:(n:Nat)->(x:Tm n)->1<=wt n x
 | 0,_=>by simp[wt]
 | n+1,x=>by simp only[wt];omega
theorem pS{a:Type}(f g:a->Nat)(c:Nat):(l:List a)->(∀y∈l,f y<=g y+c)->(l.map f).sum<=(l.map g).sum+l.length*c
 | [],_=>by simp
 | y::l,h=>by
  have e:=h y (by simp);have i:=pS f g c l λd b=>h d (by simp[b]);simp only[aJ,br,aZ,Nat.add_mul,Nat.one_mul];omega
theorem lT(s:ByteArray)(N:Nat):wt (N+1) (aQ s N)=1+s.size:=by simp[wt,aQ]
theorem mT(N:Nat)(l:List (Tm N)):wt (N+1) (cI N l)=1+(l.map (wt N)).sum:=by simp[wt,cI]
theorem Je(k u:Int)(N:Nat):wt (N+1) (aS k u N)=1:=by simp[wt,aS]
theorem G0(n:Nat)(a:Ac (n+1)):wt (n+2) (da n a)<=Jt (n+1) a+8:=by
 have f:=GZ (n+1) a.2.1.1;have g:=GZ (n+1) a.2.1.2;have b:iB.size=4:=rfl;have c:iX.size=5:=rfl;have d:lZ.size=4:=rfl;have e:l9.size=4:=rfl;unfold da Jt;split
 ·rw[mT];simp only[aJ,bP,br,iI,lT];omega
 ·split
  ·rw[mT];simp only[aJ,bP,br,iI,lT,Je];omega
  ·split
   ·rw[mT];simp only[aJ,bP,br,iI,lT];omega
   ·rw[mT];simp only[aJ,bP,br,iI,lT];omega
theorem G2(n:Nat)(c:Cl (n+1))(b:qS (n+1) c=true):wt (n+4) (ey n c)<=Ju (n+1) c+68:=by
 have h:BH.size=2:=rfl;have i:c.2.2.length<=8:=by
  simp only[qS,aB,bV]at b;omega
 have d:=pS (λa=>wt (n+2) (da n a)) (Jt (n+1)) 8 c.2.2 λa _=>G0 n a;have e:=rZ (n+3) (n+1) (by omega) c.1.1;have f:=rZ (n+3) (n+1) (by omega) c.1.2.1;have g:=rZ (n+3) (n+1) (by omega) c.1.2.2;unfold ey Ju;rw[mT];simp only[aJ,bP,br,iI,lT,mT,g8,e,f,g];have j:(c.2.2.map (wt (n+2) ∘ da n)).sum<=(c.2.2.map (Jt (n+1))).sum+c.2.2.length*8:=d;omega
theorem G1(n:Nat)(b:Bh (n+1))(c:sj (n+1) b=true):wt (n+5) (ei n b)<=G9 (n+1) b+413:=by
 have e:mR.size=3:=rfl;simp only[sj,aB,bV,bT]at c;have g:(b.2.2.map (wt (n+4) ∘ ey n)).sum<=(b.2.2.map (Ju (n+1))).sum+b.2.2.length*68:=pS (λa=>wt (n+4) (ey n a)) (Ju (n+1)) 68 b.2.2 λa d=>G2 n a (c.2 a d);have f:b.2.2.length<=6:=by omega
 unfold ei G9;rw[mT];simp only[aJ,br,lT,g8];omega
theorem G3(n:Nat)(p:List (Bh (n+1)))(b:jm (n+1) p=true):wt (n+6) (cO n p)<=(p.map (G9 (n+1))).sum+2897:=by
 have d:iz.size=4:=rfl;simp only[jm,aB,bV,bT]at b;have f:(p.map (wt (n+5) ∘ ei n)).sum<=(p.map (G9 (n+1))).sum+p.length*413:=pS (λa=>wt (n+5) (ei n a)) (G9 (n+1)) 413 p λa c=>G1 n a (b.2 a c);have e:p.length<=7:=by omega
 unfold cO;rw[mT];simp only[aJ,br,lT,g8];omega
theorem yI(n:Nat)(p:List (Bh (n+1)))(a:jm (n+1) p=true)(d:(p.map (G9 (n+1))).sum<=1048576):(ap (n+6) (cO n p)).length<=2097152:=by
 have b:=pE (n+6) (cO n p);have c:=G3 n p a;omega
end Go.Proofs.YtmbjgiaebneodaaGreat
