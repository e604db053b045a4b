/- What is proved here: plain facts and contracts that the claimed theorem stands on. No condition but those that each names. -/
import Derived.Test.YtckamaoibonjcaaGreatG42
namespace Go.Proofs.YtckamaoibonjcaaGreat
open Go.ChangeShapes Go.WideShapes Go.ChangeAt Go.RowKit
open Go.RowKit
set_option maxRecDepth 100000
set_option maxHeartbeats 4000000
def Mc(n:Nat)(a:Ac n):Nat:=wt n a.2.1.1+wt n a.2.1.2+a.2.2.1.size+1
def Md(n:Nat)(c:Cl n):Nat:=wt n c.1.1+wt n c.1.2.1+wt n c.1.2.2+(c.2.2.map (Mc n)).sum+1
def Kj(n:Nat)(b:Bh n):Nat:=b.1.size+(b.2.2.map (Md n)).sum+1
theorem zG:Tryz.prog.cellsOf 224=11:=by kernel_rfl
theorem si:Tryz.prog.cellsOf 147=13:=by kernel_rfl
theorem zH:Tryz.prog.cellsOf 138=2:=by kernel_rfl
theorem EY:Tryz.prog.cellsOf 145=1:=by kernel_rfl
theorem xI:Tryz.prog.cellsOf 136=1:=by kernel_rfl
theorem Es{a H:Type}(g:a->Nat):(p:List a)->(es:List (DataW H))->(∀(i:Nat)(y:a)(e:DataW H),p[i]?=some y->es[i]?=some e->g y<=Rows.uptoBulk e)->p.length=es.length->(p.map g).sum<=Rows.uptoBulkAll es
 | [],es,_,h=>by simp
 | y::p,[],_,h=>by simp at h
 | y::p,e::es,hp,h=>by
  have j:=hp 0 y e (by simp) (by simp);have k:=Es g p es (λi f b d c=>hp (i+1) f b (by simpa using d) (by simpa using c)) (by simpa using h);simp only[aK,bv,Rows.uptoBulkAll];omega
theorem uS{H q:Type}(enc:TypeId×Value->H)(w:World)(L:Nat->Bool)(k:Nat)(f:q->List Value)(r:q->Prop)(g:q->Nat)(T S:TypeId)(P:Tryz.prog.underlying S=some (.slice T))(ab:Tryz.prog.cellsOf T=k)(an:0<k)(K:∀y,(f y).length=k)(D:Nat)(O:∀(m:Nat)(cs:List Value)(x:DataW H×List MemPlace),m<=D->DataW.trod enc Tryz.prog w 0 L true m T cs=some x->∃y,cs=f y/\r y/\g y<=Rows.uptoBulk x.1)(m:Nat)(ar:m<=D)(v:Value)(x:DataW H×List MemPlace)(j:DataW.trod enc Tryz.prog w 0 L true m S [v]=some x):∃a l c,v=ae a l.length c/\l.length<=c/\c<=maxLen/\px w.heap.size w k f r a l/\(l.map g).sum+1<=Rows.uptoBulk x.1:=by
 rcases DataW.trod_slice P j with⟨d,rfl⟩|⟨a,len,cap,s,ax,ag,rfl,d,rfl,_,aq,V,am,t,_,_⟩
 ·simp at d;subst d;exact⟨none,[],0,rfl,ak _,aE _,ah rfl,by simp[Rows.uptoBulk]⟩
 ·simp at d;subst d;simp only[ab]at t;have key:∀e,e<len->∃y:q,(∃b o,a=⟨b,o,none⟩/\b<w.heap.size/\∀(h:Nat)(i:Value),(f y)[h]?=some i->w.cell? ⟨b,o+e*k+h,none⟩=some i)/\r y/\∀d,(s.map (·.1))[e]?=some d->g y<=Rows.uptoBulk d:=by
   intro e Z;have G:=t e Z;have I:=t 0 (by omega);rw[aH (by omega)]at G I;obtain⟨M,W,ad⟩:=br.1 G;obtain⟨N,X,av⟩:=br.1 I;obtain⟨_,ao,R⟩:=oQ W;obtain⟨_,ap,U⟩:=oQ X;obtain⟨y,rfl,z,u⟩:=O ag M _ (by omega) ad;have E:=wZ (w:=w) (a:=a) (v:=N[0]'(by omega)) (by have:=U 0 (by omega);rw[aH (by omega)]at this;simpa using this);have Q:∀h,(a.add (e*k)).add h=⟨a.block,a.off+e*k+h,none⟩:=λh=>by
    have:=DO a.block a.off (e*k) h;rw[<-E]at this;exact this
   have F:∀(h:Nat)(i:Value),(f y)[h]?=some i->w.cell? ⟨a.block,a.off+e*k+h,none⟩=some i:=λh i J=>by
    have aa:=(aR.1 J).1;have:=R h (by rw[K]at aa;omega);rw[Q,J]at this;exact this
   obtain⟨aj,af⟩:∃i,(f y)[0]?=some i:=⟨(f y)[0]'(by rw[K];omega),aH _⟩;refine⟨y,⟨a.block,a.off,E,jt w ⟨a.block,a.off+e*k+0,none⟩ (F 0 aj af),F⟩,z,λd n=>?_⟩;rw[dr,aH (by omega)]at n;have:(s[e]).1=d:=by simpa using n
   rw[<-this];exact u
  obtain⟨C,p,A⟩:=yj len key;refine⟨some a,C,cap,by rw[p],by omega,V,?_,?_⟩
  ·rcases Nat.eq_zero_or_pos len with j|j
   ·exact ah (bH (p.trans j))
   ·obtain⟨⟨b,o,rfl,u,_⟩,_,_⟩:=A 0 (C[0]'(by rw[p];exact j)) (aH (by rw[p];exact j));refine ai ⟨b,o,rfl,u,λe y B=>?_⟩;obtain⟨⟨al,aw,d,_,Y⟩,z,_⟩:=A e y B;simp at d;obtain⟨rfl,rfl⟩:=d;exact⟨Y,z⟩
  ·have au:=Es g C (s.map (·.1)) (λe y d B n=>(A e y B).2.2 d n) (by simp;omega);simp only[Rows.uptoBulk];omega
theorem mV{H:Type}(enc:TypeId×Value->H)(w:World)(a:Nat->Bool)(n m:Nat)(f:m<=n)(cs:List Value)(x:DataW H×List MemPlace)(b:DataW.trod enc Tryz.prog w 0 a true m 30 cs=some x):∃t:Tm (n+1),cs=hU (n+1) t/\In w.heap.size w (n+1) t/\wt (n+1) t<=Rows.uptoBulk x.1:=by
 obtain⟨t,c,d,e⟩:=LF enc w a n m (by omega) cs x b;exact⟨t,c,d,e⟩
theorem MA{H:Type}(enc:TypeId×Value->H)(w:World)(b:Nat->Bool)(n m:Nat)(Y:m<=n)(cs:List Value)(x:DataW H×List MemPlace)(M:DataW.trod enc Tryz.prog w 0 b true m 224 cs=some x):∃a:Ac (n+1),cs=fW (n+1) a/\ij (n+1) w.heap.size w a/\Mc (n+1) a<=Rows.uptoBulk x.1:=by
 obtain⟨c,m,rfl,rfl,G,N,o⟩:=iM Tryz.underlying224 M;have B:DataW.trod enc Tryz.prog w 0 b true m 3 ((cs.drop 0).take (Tryz.prog.cellsOf 3))=c[0]? :=o 0 _ rfl;have C:DataW.trod enc Tryz.prog w 0 b true m 30 ((cs.drop 1).take (Tryz.prog.cellsOf 30))=c[1]? :=o 1 _ rfl;have D:DataW.trod enc Tryz.prog w 0 b true m 30 ((cs.drop 5).take (Tryz.prog.cellsOf 30))=c[2]? :=o 2 _ rfl;have E:DataW.trod enc Tryz.prog w 0 b true m 9 ((cs.drop 9).take (Tryz.prog.cellsOf 9))=c[3]? :=o 3 _ rfl;have F:DataW.trod enc Tryz.prog w 0 b true m 3 ((cs.drop 10).take (Tryz.prog.cellsOf 3))=c[4]? :=o 4 _ rfl;rw[tN]at B F;rw[jT]at C D;rw[kU]at E;rw[zG]at G;obtain⟨r,d,e,f,g,h,i,j,l,u,s,rfl⟩:∃r d e f g h i j l u s,cs=[r,d,e,f,g,h,i,j,l,u,s]:=by
  match cs,G with
  | [r,d,e,f,g,h,i,j,l,u,s],_=>exact⟨r,d,e,f,g,h,i,j,l,u,s,rfl⟩
 obtain⟨y0,y1,y2,p,q,rfl⟩:∃y0 y1 y2 p q,c=[y0,y1,y2,p,q]:=by
  match c,N with
  | [y0,y1,y2,p,q],_=>exact⟨y0,y1,y2,p,q,rfl⟩
 obtain⟨k,y,T,Q⟩:=iL Tryz.underlying3 (x:=y0) (by simpa using B);obtain⟨J,A,V,S⟩:=iL Tryz.underlying3 (x:=q) (by simpa using F);obtain⟨v,z,U,R⟩:=oG Tryz.underlying9 (x:=p) (by simpa using E);obtain⟨t,K,O,W⟩:=mV enc w b n m (by omega) [d,e,f,g] y1 (by simpa using C);obtain⟨I,L,P,X⟩:=mV enc w b n m (by omega) [h,i,j,l] y2 (by simpa using D);simp at y z A;subst y z A T U V;refine⟨(k,(t,I),(v,J)),?_,⟨zg Q,O,P,R,zg S⟩,?_⟩
 ·show _=ab k::(hU (n+1) t++hU (n+1) I++ [af v,ab J]);rw[<-K,<-L];rfl
 ·have es:v.data.toList.length=v.size:=by rw[ia];rfl
  simp only[Mc,Rows.uptoBulk,Rows.uptoBulkAll,aK,bX];omega
theorem E0{H:Type}(enc:TypeId×Value->H)(w:World)(b:Nat->Bool)(n m:Nat)(F:m<=n)(cs:List Value)(x:DataW H×List MemPlace)(z:DataW.trod enc Tryz.prog w 0 b true m 147 cs=some x):∃a:Cl (n+1),cs=eK (n+1) a/\gO (n+1) w.heap.size w a/\Md (n+1) a<=Rows.uptoBulk x.1:=by
 obtain⟨d,m,rfl,rfl,E,Q,y⟩:=iM Tryz.underlying147 z;have A:DataW.trod enc Tryz.prog w 0 b true m 30 ((cs.drop 0).take (Tryz.prog.cellsOf 30))=d[0]? :=y 0 _ rfl;have B:DataW.trod enc Tryz.prog w 0 b true m 30 ((cs.drop 4).take (Tryz.prog.cellsOf 30))=d[1]? :=y 1 _ rfl;have C:DataW.trod enc Tryz.prog w 0 b true m 145 ((cs.drop 8).take (Tryz.prog.cellsOf 145))=d[2]? :=y 2 _ rfl;have D:DataW.trod enc Tryz.prog w 0 b true m 30 ((cs.drop 9).take (Tryz.prog.cellsOf 30))=d[3]? :=y 3 _ rfl;rw[jT]at A B D;rw[EY]at C;rw[si]at E;obtain⟨e,f,j,k,o,p,q,r,s,u,g,h,i,rfl⟩:∃e f j k o p q r s u g h i,cs=[e,f,j,k,o,p,q,r,s,u,g,h,i]:=by
  match cs,E with
  | [e,f,j,k,o,p,q,r,s,u,g,h,i],_=>exact⟨e,f,j,k,o,p,q,r,s,u,g,h,i,rfl⟩
 obtain⟨y0,y1,y2,v,rfl⟩:∃y0 y1 y2 v,d=[y0,y1,y2,v]:=by
  match d,Q with
  | [y0,y1,y2,v],_=>exact⟨y0,y1,y2,v,rfl⟩
 obtain⟨t,J,R,U⟩:=mV enc w b n m (by omega) [e,f,j,k] y0 (by simpa using A);obtain⟨G,K,S,V⟩:=mV enc w b n m (by omega) [o,p,q,r] y1 (by simpa using B);obtain⟨I,M,T,W⟩:=mV enc w b n m (by omega) [u,g,h,i] v (by simpa using D);obtain⟨a,l,c,L,O,N,P,X⟩:=uS enc w b 11 (fW (n+1)) (ij (n+1) w.heap.size w) (Mc (n+1)) 224 145 Tryz.underlying145 zG (by omega) (λ_=>rfl) n (λm cs x F z=>MA enc w b n m F cs x z) m (by omega) s y2 (by simpa using C);subst L;refine⟨((t,G,I),(a,c),l),?_,⟨⟨R,S,T⟩,⟨O,N⟩,P⟩,?_⟩
 ·show _=hU (n+1) t++hU (n+1) G++(ae a l.length c::hU (n+1) I);rw[<-J,<-K,<-M];rfl
 ·simp only[Md,Rows.uptoBulk,Rows.uptoBulkAll,aK,bX];omega
theorem MD{H:Type}(enc:TypeId×Value->H)(w:World)(d:Nat->Bool)(n m:Nat)(q:m<=n)(cs:List Value)(x:DataW H×List MemPlace)(g:DataW.trod enc Tryz.prog w 0 d true m 138 cs=some x):∃a:Bh (n+1),cs=oW (n+1) a/\oU (n+1) w.heap.size w a/\Kj (n+1) a<=Rows.uptoBulk x.1:=by
 obtain⟨f,m,rfl,rfl,p,v,o⟩:=iM Tryz.underlying138 g;have j:DataW.trod enc Tryz.prog w 0 d true m 9 ((cs.drop 0).take (Tryz.prog.cellsOf 9))=f[0]? :=o 0 _ rfl;have k:DataW.trod enc Tryz.prog w 0 d true m 136 ((cs.drop 1).take (Tryz.prog.cellsOf 136))=f[1]? :=o 1 _ rfl;rw[kU]at j;rw[xI]at k;rw[zH]at p;obtain⟨e,b,rfl⟩:∃e b,cs=[e,b]:=by
  match cs,p with
  | [e,b],_=>exact⟨e,b,rfl⟩
 obtain⟨y0,y1,rfl⟩:∃y0 y1,f=[y0,y1]:=by
  match f,v with
  | [y0,y1],_=>exact⟨y0,y1,rfl⟩
 obtain⟨h,i,z,y⟩:=oG Tryz.underlying9 (x:=y0) (by simpa using j);obtain⟨a,l,c,r,t,s,u,A⟩:=uS enc w d 13 (eK (n+1)) (gO (n+1) w.heap.size w) (Md (n+1)) 147 136 Tryz.underlying136 si (by omega) (λ_=>rfl) n (λm cs x q g=>E0 enc w d n m q cs x g) m (by omega) b y1 (by simpa using k);simp at i;subst i z r;refine⟨(h,(a,c),l),rfl,⟨y,⟨t,s⟩,u⟩,?_⟩;have es:h.data.toList.length=h.size:=by rw[ia];rfl
 simp only[Kj,Rows.uptoBulk,Rows.uptoBulkAll,aK,bX];omega
theorem FX{H:Type}{enc:TypeId×Value->H}{W:World}{r:Reach}{g:Nat}{v:Value}{d:DataW H}{p:List MemPlace}(u:Value.okWide Tryz.prog W r g 22 v)(b:DataW.Trod enc Tryz.prog W 0 (λ_=>true) true 22 v d p):∃n,∃l:List (Bh (n+1)),∃a c,v=ae a l.length c/\l.length<=c/\c<=maxLen/\gP (n+1) W.heap.size W a l/\(l.map (Kj (n+1))).sum<=Rows.uptoBulk d:=by
 obtain⟨a,len,cap,rfl⟩:=okWide_slice Tryz.underlying22 u;obtain⟨f,q⟩:=b;have s:DataW.trod enc Tryz.prog W 0 (λ_=>true) true f 22 [ae a len cap]=some (d,p):=q;obtain⟨e,l,c,i,j,k,m,o⟩:=uS enc W (λ_=>true) 2 (oW (f+1)) (oU (f+1) W.heap.size W) (Kj (f+1)) 138 22 Tryz.underlying22 zH (by omega) (λ_=>rfl) f (λw h x t b=>MD enc W _ f w t h x b) f (ak _) _ _ s;exact⟨f,l,e,c,i,j,k,m,by simp only at o;omega⟩
abbrev Sk(n:Nat):Type:=ByteArray×Tm (n+1)
def NR(n:Nat)(c:Sk n):List Value:=af c.1::hU (n+1) c.2
def LR(n:Nat)(c:Sk n):Nat:=wt (n+1) c.2+1
def G9(n:Nat)(B:Nat)(w:World)(c:Sk n):Prop:=c.1.size<=maxLen/\In B w (n+1) c.2
abbrev Hn(n:Nat):Type:=(Int×Int×Int)×Tm (n+1)
def N2(n:Nat)(c:Hn n):List Value:=ab c.1.1::ab c.1.2.1::ab c.1.2.2::hU (n+1) c.2
def LQ(n:Nat)(c:Hn n):Nat:=wt (n+1) c.2+1
def G5(n:Nat)(B:Nat)(w:World)(c:Hn n):Prop:=(dn c.1.1/\dn c.1.2.1/\dn c.1.2.2)/\In B w (n+1) c.2
theorem tO:Tryz.prog.cellsOf 59=5:=by kernel_rfl
theorem qu:Tryz.prog.cellsOf 32=7:=by kernel_rfl
theorem JA{H:Type}(enc:TypeId×Value->H)(w:World)(g:Nat->Bool)(n m:Nat)(A:m<=n)(cs:List Value)(x:DataW H×List MemPlace)(r:DataW.trod enc Tryz.prog w 0 g true m 59 cs=some x):∃a:Sk n,cs=NR n a/\G9 n w.heap.size w a/\LR n a<=Rows.uptoBulk x.1:=by
 obtain⟨h,m,rfl,rfl,o,s,l⟩:=iM Tryz.underlying59 r;have j:DataW.trod enc Tryz.prog w 0 g true m 9 ((cs.drop 0).take (Tryz.prog.cellsOf 9))=h[0]? :=l 0 _ rfl;have k:DataW.trod enc Tryz.prog w 0 g true m 30 ((cs.drop 1).take (Tryz.prog.cellsOf 30))=h[1]? :=l 1 _ rfl;rw[kU]at j;rw[jT]at k;rw[tO]at o;obtain⟨f,b,c,d,e,rfl⟩:∃f b c d e,cs=[f,b,c,d,e]:=by
  match cs,o with
  | [f,b,c,d,e],_=>exact⟨f,b,c,d,e,rfl⟩
 obtain⟨y0,y1,rfl⟩:∃y0 y1,h=[y0,y1]:=by
  match h,s with
  | [y0,y1],_=>exact⟨y0,y1,rfl⟩
 obtain⟨p,i,y,v⟩:=oG Tryz.underlying9 (x:=y0) (by simpa using j);obtain⟨t,q,u,z⟩:=mV enc w g n m (by omega) [b,c,d,e] y1 (by simpa using k);simp at i;subst i y;refine⟨(p,t),?_,⟨v,u⟩,?_⟩
 ·show _=af p::hU (n+1) t;rw[<-q]
 ·simp only[LR,Rows.uptoBulk,Rows.uptoBulkAll,aK,bX];omega
theorem Ct{H:Type}(enc:TypeId×Value->H)(w:World)(c:Nat->Bool)(n m:Nat)(N:m<=n)(cs:List Value)(x:DataW H×List MemPlace)(C:DataW.trod enc Tryz.prog w 0 c true m 32 cs=some x):∃a:Hn n,cs=N2 n a/\G5 n w.heap.size w a/\LQ n a<=Rows.uptoBulk x.1:=by
 obtain⟨d,m,rfl,rfl,A,D,p⟩:=iM Tryz.underlying32 C;have u:DataW.trod enc Tryz.prog w 0 c true m 3 ((cs.drop 0).take (Tryz.prog.cellsOf 3))=d[0]? :=p 0 _ rfl;have v:DataW.trod enc Tryz.prog w 0 c true m 3 ((cs.drop 1).take (Tryz.prog.cellsOf 3))=d[1]? :=p 1 _ rfl;have y:DataW.trod enc Tryz.prog w 0 c true m 3 ((cs.drop 2).take (Tryz.prog.cellsOf 3))=d[2]? :=p 2 _ rfl;have z:DataW.trod enc Tryz.prog w 0 c true m 30 ((cs.drop 3).take (Tryz.prog.cellsOf 30))=d[3]? :=p 3 _ rfl;rw[tN]at u v y;rw[jT]at z;rw[qu]at A;obtain⟨j,l,o,e,f,g,h,rfl⟩:∃j l o e f g h,cs=[j,l,o,e,f,g,h]:=by
  match cs,A with
  | [j,l,o,e,f,g,h],_=>exact⟨j,l,o,e,f,g,h,rfl⟩
 obtain⟨y0,y1,y2,i,rfl⟩:∃y0 y1 y2 i,d=[y0,y1,y2,i]:=by
  match d,D with
  | [y0,y1,y2,i],_=>exact⟨y0,y1,y2,i,rfl⟩
 obtain⟨k,q,J,F⟩:=iL Tryz.underlying3 (x:=y0) (by simpa using u);obtain⟨a,r,K,G⟩:=iL Tryz.underlying3 (x:=y1) (by simpa using v);obtain⟨b,s,L,I⟩:=iL Tryz.underlying3 (x:=y2) (by simpa using y);obtain⟨t,B,E,M⟩:=mV enc w c n m (by omega) [e,f,g,h] i (by simpa using z);simp at q r s;subst q r s J K L;refine⟨((k,a,b),t),?_,⟨⟨zg F,zg G,zg I⟩,E⟩,?_⟩
 ·show _=ab k::ab a::ab b::hU (n+1) t;rw[<-B]
 ·simp only[LQ,Rows.uptoBulk,Rows.uptoBulkAll,aK,bX];omega
theorem AT{H:Type}{enc:TypeId×Value->H}{W:World}{r:Reach}{g:Nat}{v:Value}{d:DataW H}{p:List MemPlace}(u:Value.okWide Tryz.prog W r g 23 v)(b:DataW.Trod enc Tryz.prog W 0 (λ_=>true) true 23 v d p):∃n,∃l:List (Sk n),∃a c,v=ae a l.length c/\l.length<=c/\c<=maxLen/\px W.heap.size W 5 (NR n) (G9 n W.heap.size W) a l/\(l.map (LR n)).sum<=Rows.uptoBulk d:=by
 obtain⟨a,len,cap,rfl⟩:=okWide_slice Tryz.underlying23 u;obtain⟨f,q⟩:=b;have s:DataW.trod enc Tryz.prog W 0 (λ_=>true) true f 23 [ae a len cap]=some (d,p):=q;obtain⟨e,l,c,i,j,k,m,o⟩:=uS enc W (λ_=>true) 5 (NR f) (G9 f W.heap.size W) (LR f) 59 23 Tryz.underlying23 tO (by omega) (λ_=>rfl) f (λw h x t b=>JA enc W _ f w t h x b) f (ak _) _ _ s;exact⟨f,l,e,c,i,j,k,m,by simp only at o;omega⟩
theorem yu{H:Type}{enc:TypeId×Value->H}{W:World}{r:Reach}{g:Nat}{v:Value}{d:DataW H}{p:List MemPlace}(u:Value.okWide Tryz.prog W r g 24 v)(b:DataW.Trod enc Tryz.prog W 0 (λ_=>true) true 24 v d p):∃n,∃l:List (Hn n),∃a c,v=ae a l.length c/\l.length<=c/\c<=maxLen/\px W.heap.size W 7 (N2 n) (G5 n W.heap.size W) a l/\(l.map (LQ n)).sum<=Rows.uptoBulk d:=by
 obtain⟨a,len,cap,rfl⟩:=okWide_slice Tryz.underlying24 u;obtain⟨f,q⟩:=b;have s:DataW.trod enc Tryz.prog W 0 (λ_=>true) true f 24 [ae a len cap]=some (d,p):=q;obtain⟨e,l,c,i,j,k,m,o⟩:=uS enc W (λ_=>true) 7 (N2 f) (G5 f W.heap.size W) (LQ f) 32 24 Tryz.underlying24 qu (by omega) (λ_=>rfl) f (λw h x t b=>Ct enc W _ f w t h x b) f (ak _) _ _ s;exact⟨f,l,e,c,i,j,k,m,by simp only at o;omega⟩
theorem AW{b:Type}(f:b->Nat)(l:List b)(y:b)(a:y∈l):f y<=(l.map f).sum:=by
 induction l with
 | nil=>cases a
 | cons c l ih=>
  simp only[aK,bv];rcases ch.1 a with rfl|a
  ·omega
  ·have:=ih a;omega
theorem uM{b:Type}(f:b->Nat)(a:∀y,1<=f y):(l:List b)->l.length<=(l.map f).sum
 | []=>aE _
 | y::l=>by
  have:=uM f a l;have:=a y;simp only[aK,bv,aZ];omega
theorem IE{d:Type}{B k:Nat}{f:d->List Value}{e:d->Prop}{a:Option Addr}{l:List d}{w:World}(b:px B w k f e a l){j:Nat}{y:d}(c:l[j]?=some y):∃g o,a=some ⟨g,o,none⟩/\g<B/\(∀(t:Nat)(h:Value),(f y)[t]?=some h->w.cell? ⟨g,o+j*k+t,none⟩=some h)/\e y:=by
 rcases b with b|⟨g,o,i,m,b⟩
 ·rw[b]at c;simp at c
 ·exact⟨g,o,i,m,(b j y c).1,(b j y c).2⟩
theorem Iy{a:Type}(l:List a)(d:a):∃b:Nat->a,∀j,j<l.length->l[j]?=some (b j):=⟨λj=>l.getD j d,λj c=>by
 simp only[mn,aH c]
 rfl⟩
def zr(R:Sy->Prop)(w0:World)(room:Int)(i a:Nat)(W:World):Prop:=∃(p:lB)(s:Sy)(d:gu),p.b=a/\bi p s d W/\(dI s/\R s)/\p.room=room/\(d.k<=i*402/\d.es.length<=i*201/\d.wn<=i*201/\d.bn<=i*201)/\aj w0 W/\w0.heap.size<=p.lo
theorem zr.below{R:Sy->Prop}{w0:World}{room:Int}{i c:Nat}{W:World}(a:zr R w0 room i c W):aj w0 W:=by
 obtain⟨_,_,_,_,_,_,_,_,b,_⟩:=a;exact b
theorem NT{w0 W:World}{p:lB}{s:Sy}{d:gu}{i:Nat}(g:bi p s d W)(w:dI s)(z:d.k<=i*402/\d.es.length<=i*201/\d.wn<=i*201/\d.bn<=i*201)(y:i<=110)(h:aj w0 W)(m:w0.heap.size<=p.lo){n:Nat}(c:Hn n)(j:G5 n w0.heap.size w0 c)(t:(aw (n+1) c.2).length<=2097152)(R:Sy->Prop)(u:R (s.do p.n p.prog p.room c.1.1 c.1.2.1 c.1.2.2 (n+1) c.2).1):am 8 #[aF p.b,.agg #[ab c.1.1,ab c.1.2.1,ab c.1.2.2,ab c.2.1.1,ab c.2.1.2.1,af c.2.1.2.2,ae c.2.2.1.1 c.2.2.2.length c.2.2.1.2]] W λe w'=>∃v,e=.returned (ab v)/\Hid (zr R w0 p.room (i+1) p.b w'/\∃f,bi p (s.do p.n p.prog p.room c.1.1 c.1.2.1 c.1.2.2 (n+1) c.2).1 f w'/\fO 201 402 d f W w'):=by
 have o:=j.2.below h;refine(g.do (kd:=c.1.1) (a:=c.1.2.1) (b:=c.1.2.2) ⟨j.1.2.1,j.1.2.2⟩ c.2 ⟨o.mono h.size,(In.offBelow o).mono λx E F=>?_⟩ t (by omega) (by omega) (by omega) (by omega)).mono ?_
 ·have:=(g.low x (by omega)).1;omega
 ·rintro e w' ⟨v,rfl,r⟩;obtain⟨_,f,q,l⟩:=r.out;exact⟨v,rfl,⟨p,_,f,rfl,q,⟨w.do _ _ _ _ _,u⟩,rfl,by obtain⟨_,_,A,B,C,D⟩:=l;omega,h.trans (qZ g l m),m⟩,f,q,l⟩
theorem Du(R:Sy->Prop)(Z:R Kh)(ad:∀{n:Nat}{prog:List (Bh (n+1))}{room:Int}{s:Sy}(nm:ByteArray)(k:Nat)(x:Tm k),R s->R (s.start n prog room nm k x).1)(n:Nat)(l:List (Bh (n+1)))(u:Option Addr)(v:Nat)(room:Int)(F:Nat)(q:List (Sk F))(sa:Option Addr)(sc:Nat)(w W:World)(af:gP (n+1) w.heap.size w u l)(ag:l.length<=v)(al:v<=maxLen)(aa:jY (n+1) l=true->(aw (n+6) (bW n l)).length<=2097152)(an:px w.heap.size w 5 (NR F) (G9 F w.heap.size w) sa q)(ao:∀c∈q,(aw (F+1) c.2).length<=2097152)(az:q.length<=1048576)(B:aj w W):am 6 #[ae u l.length v,ab room,ae sa q.length sc] W λe w'=>(e=.returned (.pointer none)/\Hid (aj w w'))\/∃g,e=.returned (aF g)/\Hid (zr R w room (4+0) g w'):=by
 obtain⟨i,P⟩:=Iy q (⟨#[]⟩,((0,0,⟨#[]⟩),(none,0),[]));have ak:(maxLen:Nat)=9223372036854775807:=rfl;have M:=B.size;have t:∀{W:World}{j o:Nat}{f:Value},aj w W->j<w.heap.size->w.cell? ⟨j,o,none⟩=some f->W.cell? ⟨j,o,none⟩=some f:=λ{W j o f} d m I=>(d.cell (p:=⟨j,o,none⟩) m).trans I;refine(B7 u l.length v room sa q.length sc (λa=>(i a).1) (λa=>(i a).2.1.2.2) (λa=>(i a).2.1.1) (λa=>(i a).2.1.2.1) (λa=>(i a).2.2.1.1) (λa=>(i a).2.2.2.length) (λa=>(i a).2.2.1.2) W (λf G h=>Mx n l room W f G h) (λg a h=>q.length<=4/\zr R w room a g h) (λf h=>(f=.pointer none/\aj w h)\/∃g,f=aF g/\zr R w room (4+0) g h) (by omega) (Bo n l u v room W ?_ ag al aa) (λf G h A aA=>?_) (λf h A z=>?_) (λg a h Q J=>?_) λg h J=>?_).mono ?_
 ·have V:=cB (dN (n+1)) 2 (oW (n+1)) u;exact V.2.2.2.1 _ _ _ _ M (af.below B)
 ·exact ah ⟨rfl,B.trans (A.2.1.mono M)⟩
 ·obtain⟨p,y,rfl,S,⟨aq,T,ar,aB⟩,au,aC,aD,aH⟩:=A.2.2.2 rfl;exact⟨p.b,rfl,z,p,Kh,y,rfl,S,⟨dI.zero,Z⟩,au,⟨by omega,by rw[T];exact aE _,by omega,by omega⟩,B.trans (A.2.1.mono M),by omega⟩
 ·obtain⟨z,p,s,y,rfl,D,E,N,ap,d,C⟩:=J;obtain⟨j,o,Y,m,r,O⟩:=IE an (P a Q);refine⟨j,o,⟨Y,t d m (r 0 _ rfl),t d m (r 1 _ rfl),t d m (r 2 _ rfl),t d m (r 3 _ rfl),t d m (r 4 _ rfl)⟩,λax K=>?_⟩;have L:=d.trans (K.mono d.size);refine((D.later K).start (i a).1 (ay O.1 (dt ak)) (i a).2 ((O.2.below L).mono L.size) (ao _ (aG (P a Q))) (by omega) (by omega)).mono ?_;rintro e w' ⟨f,G,rfl,H⟩;obtain⟨_,X,av,U⟩:=H.out;exact⟨f,G,rfl,z,p,_,X,rfl,av,⟨E.1.start _ _ _,ad _ _ _ E.2⟩,N,by obtain⟨_,_,S,aq,T,ar⟩:=U;omega,L.trans (qZ (D.later K) U C),C⟩
 ·obtain⟨z,p,s,y,rfl,D,E,N,ap,d,C⟩:=J;exact ai ⟨_,rfl,p,s,y,rfl,D,E,N,by omega,d,C⟩
 ·rintro e w' ⟨f,rfl,H⟩;rcases H.out with⟨rfl,d⟩|⟨g,rfl,I⟩
  ·exact ah ⟨rfl,d⟩
  ·exact ai ⟨g,rfl,I⟩
theorem D6:(l:List (Int×Int×Int×Tc))->∀{s:Sy},Cf s l=true->∀{j:Nat}{e:Int×Int×Int×Tc},l[j]?=some e->(Ia (xS s (l.take j)) e).2=0
 | [],_,_,_,_,h=>by simp at h
 | a::l,s,h,0,e,he=>by
  obtain rfl:a=e:=by simpa using he
  simp only[Cf,aA,cm]at h;exact h.1
 | a::l,s,h,j+1,e,he=>by
  simp only[Cf,aA]at h;exact D6 l h.2 (by simpa using he)
theorem Ib(s:Sy){l:List (Int×Int×Int×Tc)}{j:Nat}{e:Int×Int×Int×Tc}(a:l[j]?=some e):xS s (l.take (j+1))=(Ia (xS s (l.take j)) e).1:=by
 rw[dz,a];simp[xS]
theorem BA{w0:World}{V:Nat->Prop}{a:World}{s:Sy}{i h:Nat}{W:World}(v:BT w0 V a s i h W)(l:List (Int×Int×Int×Tc))(C:Cf s l=true)(N:i+l.length<=100)(g c:Nat)(t:V g)(k:Nat->Nat)(x:(j:Nat)->Tm (k j+1))(E:∀j e,l[j]?=some e->(In a.heap.size a (k j+1) (x j)/\bZ V (k j+1) (x j))/\(aw (k j+1) (x j)).length<=2097152/\(ax (k j+1) (x j) 13 e.2.2.2=true\/e.1≠3)/\I2 (e.2.1,e.2.2.1))(B:∀j e,l[j]?=some e->a.cell? ⟨g,j*7,none⟩=some (ab e.1)/\a.cell? ⟨g,j*7+1,none⟩=some (ab e.2.1)/\a.cell? ⟨g,j*7+2,none⟩=some (ab e.2.2.1)/\a.cell? ⟨g,j*7+3,none⟩=some (ab (x j).1.1)/\a.cell? ⟨g,j*7+4,none⟩=some (ab (x j).1.2.1)/\a.cell? ⟨g,j*7+5,none⟩=some (af (x j).1.2.2)/\a.cell? ⟨g,j*7+6,none⟩=some (.slice (x j).2.1.1 (x j).2.2.length (x j).2.1.2)):am 20 #[aF h,ae (some ⟨g,0,none⟩) l.length c] W λe w'=>e=.returned (.bool true)/\Hid (BT w0 V a (xS s l) (i+l.length) h w'):=by
 obtain⟨f,z⟩:∃f:Nat->Int×Int×Int×Tc,∀j,j<l.length->l[j]?=some (f j):=⟨λj=>l.getD j (0,0,0,vp),λj p=>by
  simp only[mn,aH p]
  rfl⟩
 have D:xS s (l.take l.length)=xS s l:=by rw[List.take_length]
 have:=GG h g l.length c (λj=>(f j).1) (λj=>(f j).2.1) (λj=>(f j).2.2.1) (λj=>(x j).1.1) (λj=>(x j).1.2.1) (λj=>(x j).1.2.2) (λj=>(x j).2.1.1) (λj=>(x j).2.2.length) (λj=>(x j).2.1.2) W (λj n=>BT w0 V a (xS s (l.take j)) (i+j) h n) (by omega) v (λj n p r=>?_)
 ·rw[<-D];exact this
 ·have m:=z j p;obtain⟨G,H,I,J⟩:=E j _ m;have b:=B j _ m;have d:∀{o:Nat}{q:Value},a.cell? ⟨g,o,none⟩=some q->n.cell? ⟨g,o,none⟩=some q:=λ{o q} F=>by
   obtain⟨O,M,_,_,_,_,_,w,y⟩:=r;rw[y.cell o (w g t).1 λK=>K t];exact F
  refine⟨⟨d b.1,d b.2.1,d b.2.2.1,d b.2.2.2.1,d b.2.2.2.2.1,d b.2.2.2.2.2.1,d b.2.2.2.2.2.2⟩,λL A=>?_⟩;refine(LB (r.later A) (by omega) (f j) J (x j) G H I).mono ?_;rintro e w' ⟨rfl,u⟩;rw[D6 l C m];refine⟨rfl,?_⟩;rw[Ib s m];exact u.out
theorem JO(a:Nat)(W:World):(binOp .eql 26 (aF a) (.pointer none)).run Tryz.prog W=.ok (.bool false) W:=by kernel_rfl
def G2(r:Nat)(W:World):Prop:=W.heap[r]?=some (.cells #[ab 1,ab 1,ab 0,ab 0,ab 0,af ⟨#[]⟩,ae none 0 0] 32)
theorem oA{r:Nat}{w W:World}(b:G2 r w)(c:aj w W):W.cell? ⟨r,0,none⟩=some (Value.int .i64 1)/\W.cell? ⟨r,1,none⟩=some (Value.int .i64 1)/\W.cell? ⟨r,2,none⟩=some (Value.int .i64 0)/\W.cell? ⟨r,3,none⟩=some (Value.int .i64 0)/\W.cell? ⟨r,4,none⟩=some (Value.int .i64 0)/\W.cell? ⟨r,5,none⟩=some (Value.string ⟨#[]⟩)/\W.cell? ⟨r,6,none⟩=some (Value.slice none 0 0):=by
 have a:W.heap[r]?=some (.cells #[ab 1,ab 1,ab 0,ab 0,ab 0,af ⟨#[]⟩,ae none 0 0] 32):=(c.block r (aD.1 b).1).trans b;exact⟨ag a 0,ag a 1,ag a 2,ag a 3,ag a 4,ag a 5,ag a 6⟩
theorem Gn(w:World)(M:Option Addr->Nat->Nat->World->Prop)(aJ aK:Nat->World->Prop)(L:Nat->Nat->World->Prop)(aL:Nat->World->Prop)(aM:Option Addr->Nat->World->Prop)(aO aP aQ:Nat->Int->Int->ByteArray->Option Addr->Nat->Nat->World->Prop)(ar:Hid (am 18 #[] w λe w'=>∃a l c,e=.returned (ae a l c)/\Hid (M a l c w')))(au:Hid (∀a l c W,M a l c W->am 17 #[ae a l c,ab 60] W λe w'=>∃b,e=.returned (.tuple #[aF b,ab 0])/\Hid (aJ b w')))(z:Hid (∀b W,aJ b W->am 19 #[aF b,af ⟨#[99,111,117,110,116]⟩,.agg #[ab 1,ab 2,af ⟨#[]⟩,ae none 0 0]] W λe w'=>e=.returned (.tuple #[ab 1,ab 0])/\Hid (aK b w')))(aE:Hid (∀W,am 21 #[ab 1,af ⟨#[40,117,112,32,51,41]⟩] W λe w'=>∃y0 y1 y2 ya yl yc,e=.returned (.agg #[ab 3,ab 1,ab 0,ab y0,ab y1,af y2,ae ya yl yc])/\Hid (aO W.heap.size y0 y1 y2 ya yl yc w'/\aj W w')))(aG:Hid (∀W,am 21 #[ab 1,af ⟨#[102,111,114,107]⟩] W λe w'=>∃y0 y1 y2 ya yl yc,e=.returned (.agg #[ab 3,ab 1,ab 0,ab y0,ab y1,af y2,ae ya yl yc])/\Hid (aP W.heap.size y0 y1 y2 ya yl yc w'/\aj W w')))(aH:Hid (∀W,am 21 #[ab 1,af ⟨#[98,97,100]⟩] W λe w'=>∃y0 y1 y2 ya yl yc,e=.returned (.agg #[ab 3,ab 1,ab 0,ab y0,ab y1,af y2,ae ya yl yc])/\Hid (aQ W.heap.size y0 y1 y2 ya yl yc w'/\aj W w')))(az:Hid (∀b r g ah B2 o h p R y0 y1 y2 ya yl yc V X Y Z ad aa,aK b o->(aj o h/\o.heap.size=r/\G2 r h)->(r<ah/\r<B2)->aO ah y0 y1 y2 ya yl yc h->aj h p->aP B2 V X Y Z ad aa p->aj p R->(p.heap.size<=g/\R.heap[g]?=some (.cells #[ab 3,ab 1,ab 0,ab y0,ab y1,af y2,ae ya yl yc,ab 1,ab 1,ab 0,ab 0,ab 0,af ⟨#[]⟩,ae none 0 0,ab 3,ab 1,ab 0,ab V,ab X,af Y,ae Z ad aa,ab 1,ab 1,ab 0,ab 0,ab 0,af ⟨#[]⟩,ae none 0 0,ab 2,ab 1,ab 2,ab 0,ab 0,af ⟨#[]⟩,ae none 0 0,ab 1,ab 2,ab 0,ab 0,ab 0,af ⟨#[]⟩,ae none 0 0] 32))->am 20 #[aF b,ae (some ⟨g,0,none⟩) 6 6] R λe w'=>e=.returned (.bool true)/\Hid (L b r w'/\G2 r w')))(aw:Hid (∀b r W,L b r W->am 7 #[aF b,ab 2] W λe w'=>∃nm U sa sl sc ma aW aV,e=.returned (.tuple #[af nm,.agg #[ab 1,ab 7,af U,ae sa sl sc],ae ma aW aV,ab 0])/\aj W w'))(O:Hid (∀b r W n,L b r W->aj W n->am 12 #[aF b] n λe w'=>∃a c,e=.returned (ae a 2 c)/\Hid (aM a c w'/\aj n w')))(Q:Hid (∀a c g W n,aM a c W->aj W n->n.heap[g]?=some (.cells #[ab 1,ab 2] 3)->am 22 #[ae a 2 c,ae (some ⟨g,0,none⟩) 2 2] n λe w'=>e=.returned (.bool true)/\aj n w'))(aA:Hid (∀b r q g B o h p y0 y1 y2 ya yl yc,L b r o->(aj o h/\o.heap.size<=q/\h.cell? ⟨q,1,none⟩=some (ab 7))->o.heap.size<=B->aQ B y0 y1 y2 ya yl yc h->G2 r h->aj h p->(h.heap.size<=g/\p.heap[g]?=some (.cells #[ab 3,ab 1,ab 0,ab y0,ab y1,af y2,ae ya yl yc,ab 1,ab 1,ab 0,ab 0,ab 0,af ⟨#[]⟩,ae none 0 0] 32))->am 20 #[aF b,ae (some ⟨g,0,none⟩) 2 2] p λe w'=>e=.returned (.bool true)/\Hid (aL b w'/\G2 r w'/\w'.cell? ⟨q,1,none⟩=some (ab 7))))(aI:Hid (∀b W,aL b W->am 12 #[aF b] W λe w'=>∃a c,e=.returned (ae a 0 c)/\aj w w')):am 5 #[] w λe w'=>e=.returned (.bool true)/\aj w w':=by
 go_enter Tryz.func5,Tryz.ntmps5;go_wp2_with fail;refine ar.out.mono ?_;rintro e bc ⟨a,l,c,rfl,ai⟩;have av:=ao (au.out _ _ _ _ ai.out);clear ar au ai;go_wp2_with fail;refine av.out.mono ?_;rintro e bf ⟨b,rfl,al⟩;have aC:=ao (z.out _ _ al.out);have bb:=JO b;clear av z al;go_wp2_with fail;refine aC.out.mono ?_;rintro e s ⟨rfl,an⟩;clear aC;go_upto_region 6 with fail;generalize aU:s.alloc _=A;have x:Hid (aj s A/\s.heap.size=s.heap.size/\G2 s.heap.size A):=by
  rw[<-aU];exact⟨(ap _ _).alloc (ak _) _,rfl,aB _ _⟩
 clear aU;have D:Hid (∀W,aj A W->aj s W/\G2 s.heap.size W):=λW i=>⟨x.out.1.trans (i.mono x.out.1.size),(i.block _ (aD.1 x.out.2.2).1).trans x.out.2.2⟩;generalize S:s.heap.size=r at*;have d:=ao (λW (i:aj A W)=>oA x.out.2.2 i);have E:Hid (aj A A.drew):=(ap _ _).drew
 go_region_held3 (λW=>W.cell? ⟨r,0,none⟩=some (Value.int .i64 1)/\W.cell? ⟨r,1,none⟩=some (Value.int .i64 1)/\W.cell? ⟨r,2,none⟩=some (Value.int .i64 0)/\W.cell? ⟨r,3,none⟩=some (Value.int .i64 0)/\W.cell? ⟨r,4,none⟩=some (Value.int .i64 0)/\W.cell? ⟨r,5,none⟩=some (Value.string ⟨#[]⟩)/\W.cell? ⟨r,6,none⟩=some (Value.slice none 0 0)) (first|exact d.out _ E.out|exact d.out _ t.out|exact d.out _ I.out|exact d.out _ (I.out.alloc I.out.size _)|exact oA m.out.2 (ap _ _)) ((first
  | (go_at_call 21;first
      | (refine(aE.out _).mono ?_;rintro e a7 ⟨y0,y1,y2,ya,yl,yc,rfl,P⟩;have t:=ao (E.out.trans (P.out.2.mono E.out.size));clear aE)
      | (refine(aG.out _).mono ?_;rintro e a8 ⟨V,X,Y,Z,ad,aa,rfl,J⟩;have I:=ao (t.out.trans (J.out.2.mono t.out.size));clear aG))
  | (go_at_call 20;refine(az.out _ _ _ _ _ _ a7 a8 _ _ _ _ _ _ _ _ _ _ _ _ _ an.out ⟨by rw[S];exact(D.out _ t.out).1,S,(D.out _ t.out).2⟩ ⟨(aD.1 (D.out _ E.out).2).1,(aD.1 (D.out _ t.out).2).1⟩ P.out.1 J.out.2 J.out.1 ((ap _ _).alloc (ak _) _) ⟨ak _,aB _ _⟩).mono ?_;rintro e aX ⟨rfl,m⟩)))
 have ax:=ao (aw.out _ _ _ m.out.1);clear az aw x D d E an t I P J S;go_upto_region 8 with fail;go_wp2_with fail;refine ax.out.mono ?_;rintro e H ⟨nm,U,sa,sl,sc,ma,aW,aV,rfl,aT⟩;have K:=ao aT;clear ax aT;go_upto_region 9 with fail;generalize T:H.alloc _=j;have f:Hid (aj aX j/\aX.heap.size<=H.heap.size/\∀W,aj j W->W.cell? ⟨H.heap.size,1,none⟩=some (ab 7)):=by
  have aR:j.heap[H.heap.size]?=some (.cells #[ab 1,ab 7,af U,ae sa sl sc] 30):=by
   rw[<-T];exact aB _ _
  refine⟨K.out.trans (by rw[<-T];exact(ap _ _).alloc K.out.size _),K.out.size,λW i=>?_⟩;have a3:=(i.block _ (aD.1 aR).1).trans aR;exact ag a3 1
 generalize H.heap.size=q at*;clear T K;have z:Hid (∀W,aj j W->G2 r W):=λW i=>(i.block _ (aN (aD.1 m.out.2).1 f.out.1.size)).trans ((f.out.1.block _ (aD.1 m.out.2).1).trans m.out.2);have d:Hid (∀W,aj j W->(W.cell? ⟨r,0,none⟩=some (Value.int .i64 1)/\W.cell? ⟨r,1,none⟩=some (Value.int .i64 1)/\W.cell? ⟨r,2,none⟩=some (Value.int .i64 0)/\W.cell? ⟨r,3,none⟩=some (Value.int .i64 0)/\W.cell? ⟨r,4,none⟩=some (Value.int .i64 0)/\W.cell? ⟨r,5,none⟩=some (Value.string ⟨#[]⟩)/\W.cell? ⟨r,6,none⟩=some (Value.slice none 0 0))/\W.cell? ⟨q,1,none⟩=some (ab 7)):=λW i=>⟨oA (z.out W i) (ap _ _),f.out.2.2 W i⟩;have F:Hid (aj j j.drew):=(ap _ _).drew;have y:Hid (aj j (j.alloc (.cells #[ab 1,ab 2] 3)).drew/\(j.alloc (.cells #[ab 1,ab 2] 3)).drew.heap[j.heap.size]?=some (.cells #[ab 1,ab 2] 3)):=⟨((ap _ _).alloc (ak _) _).drew,aB _ _⟩
 go_region_held3 (λW=>(W.cell? ⟨r,0,none⟩=some (Value.int .i64 1)/\W.cell? ⟨r,1,none⟩=some (Value.int .i64 1)/\W.cell? ⟨r,2,none⟩=some (Value.int .i64 0)/\W.cell? ⟨r,3,none⟩=some (Value.int .i64 0)/\W.cell? ⟨r,4,none⟩=some (Value.int .i64 0)/\W.cell? ⟨r,5,none⟩=some (Value.string ⟨#[]⟩)/\W.cell? ⟨r,6,none⟩=some (Value.slice none 0 0))/\W.cell? ⟨q,1,none⟩=some (ab 7)) (first|exact d.out _ F.out|exact d.out _ y.out.1|exact d.out _ k.out|exact d.out _ (k.out.alloc k.out.size _)|exact d.out _ C.out|exact d.out _ v.out|exact d.out _ (v.out.alloc v.out.size _)|exact⟨oA N.out.2.1 (ap _ _),N.out.2.2⟩) ((first
  | (go_at_call 12;first
      | (refine(O.out _ _ _ _ m.out.1 (f.out.1.trans (F.out.mono f.out.1.size))).mono ?_;rintro e a4 ⟨a1,a2,rfl,u⟩;have k:=ao (F.out.trans (u.out.2.mono F.out.size)))
      | (refine(O.out _ _ _ _ m.out.1 (f.out.1.trans (y.out.1.mono f.out.1.size))).mono ?_;rintro e a4 ⟨a1,a2,rfl,u⟩;have k:=ao (y.out.1.trans (u.out.2.mono y.out.1.size));have aZ:=ao ((u.out.2.block _ (aD.1 y.out.2).1).trans y.out.2)))
  | (go_at_call 22;first
      | (refine(Q.out _ _ _ _ _ u.out.1 (ap _ _) aZ.out).mono ?_;rintro e a5 ⟨rfl,G⟩;have C:=ao (k.out.trans (G.mono k.out.size));clear G)
      | (refine(Q.out _ _ _ _ _ u.out.1 ((ap _ _).alloc (ak _) _) (aB _ _)).mono ?_;rintro e a5 ⟨rfl,G⟩;have C:=ao ((k.out.alloc k.out.size _).trans (G.mono (k.out.alloc k.out.size _).size));clear G))
  | (go_at_call 21;refine(aH.out _).mono ?_;rintro e a6 ⟨y0,y1,y2,ya,yl,yc,rfl,aq⟩;have v:=ao (C.out.trans (aq.out.2.mono C.out.size)))
  | (go_at_call 20;refine(aA.out _ _ q _ _ _ a6 _ _ _ _ _ _ _ m.out.1 ⟨f.out.1.trans (v.out.mono f.out.1.size),f.out.2.1,f.out.2.2 _ v.out⟩ (ay f.out.1.size C.out.size) aq.out.1 (z.out _ v.out) ((ap _ _).alloc (ak _) _) ⟨ak _,aB _ _⟩).mono ?_;rintro e bd ⟨rfl,N⟩)))
 all_goals
  have a0:=ao (aI.out _ _ N.out.1);clear O Q aA aI aH z d F f;go_upto_region 11 with fail;go_wp2_with fail;refine a0.out.mono ?_;rintro e be ⟨a9,ba,rfl,aS⟩;have aY:=ao aS;clear aS;go_wp2_with fail
  go_ret
  exact⟨rfl,aY.out⟩
end Go.Proofs.YtckamaoibonjcaaGreat
