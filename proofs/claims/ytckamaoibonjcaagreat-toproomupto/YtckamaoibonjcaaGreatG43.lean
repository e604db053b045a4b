/- What is proved here: plain facts and contracts that the claimed theorem stands on. No condition but those that each names. -/
import Derived.Test.YtckamaoibonjcaaGreatG42
namespace Go.Proofs.YtckamaoibonjcaaGreat
open Go.ChangeShapes Go.WideShapes Go.ChangeAt Go.RowKit
open Go.RowKit
set_option maxRecDepth 100000
set_option maxHeartbeats 4000000
abbrev Sk(n:Nat):Type:=ByteArray×Tm (n+1)
def Nv(n:Nat)(c:Sk n):List Value:=.string c.1::gR (n+1) c.2
def Lx(n:Nat)(c:Sk n):Nat:=wt (n+1) c.2+1
def GR(n:Nat)(B:Nat)(w:World)(c:Sk n):Prop:=c.1.size<=maxLen/\In B w (n+1) c.2
abbrev Hn(n:Nat):Type:=(Int×Int×Int)×Tm (n+1)
def NI(n:Nat)(c:Hn n):List Value:=.int .i64 c.1.1::.int .i64 c.1.2.1::.int .i64 c.1.2.2::gR (n+1) c.2
def Lw(n:Nat)(c:Hn n):Nat:=wt (n+1) c.2+1
def GN(n:Nat)(B:Nat)(w:World)(c:Hn n):Prop:=(dh c.1.1/\dh c.1.2.1/\dh c.1.2.2)/\In B w (n+1) c.2
theorem tD:Tryz.prog.cellsOf 59=5:=by kernel_rfl
theorem qi:Tryz.prog.cellsOf 32=7:=by kernel_rfl
theorem Ji{H:Type}(enc:TypeId×Value->H)(w:World)(g:Nat->Bool)(n m:Nat)(A:m<=n)(cs:List Value)(x:DataW H×List MemPlace)(r:DataW.trod enc Tryz.prog w 0 g true m 59 cs=some x):∃a:Sk n,cs=Nv n a/\GR n w.heap.size w a/\Lx n a<=Rows.uptoBulk x.1:=by
 obtain⟨h,m,rfl,rfl,o,s,l⟩:=iC Tryz.underlying59 r;have j:DataW.trod enc Tryz.prog w 0 g true m 9 ((cs.drop 0).take (Tryz.prog.cellsOf 9))=h[0]? :=l 0 _ rfl;have k:DataW.trod enc Tryz.prog w 0 g true m 30 ((cs.drop 1).take (Tryz.prog.cellsOf 30))=h[1]? :=l 1 _ rfl;rw[kK]at j;rw[jK]at k;rw[tD]at o;obtain⟨f,b,c,d,e,rfl⟩:∃f b c d e,cs=[f,b,c,d,e]:=by
  match cs,o with
  | [f,b,c,d,e],_=>exact⟨f,b,c,d,e,rfl⟩
 obtain⟨y0,y1,rfl⟩:∃y0 y1,h=[y0,y1]:=by
  match h,s with
  | [y0,y1],_=>exact⟨y0,y1,rfl⟩
 obtain⟨p,i,y,v⟩:=ot Tryz.underlying9 (x:=y0) (by simpa using j);obtain⟨t,q,u,z⟩:=mJ enc w g n m (by omega) [b,c,d,e] y1 (by simpa using k);simp at i;subst i y;refine⟨(p,t),?_,⟨v,u⟩,?_⟩
 ·show _=.string p::gR (n+1) t;rw[<-q]
 ·simp only[Lx,Rows.uptoBulk,Rows.uptoBulkAll,aH,bS];omega
theorem Cf{H:Type}(enc:TypeId×Value->H)(w:World)(c:Nat->Bool)(n m:Nat)(N:m<=n)(cs:List Value)(x:DataW H×List MemPlace)(C:DataW.trod enc Tryz.prog w 0 c true m 32 cs=some x):∃a:Hn n,cs=NI n a/\GN n w.heap.size w a/\Lw n a<=Rows.uptoBulk x.1:=by
 obtain⟨d,m,rfl,rfl,A,D,p⟩:=iC Tryz.underlying32 C;have u:DataW.trod enc Tryz.prog w 0 c true m 3 ((cs.drop 0).take (Tryz.prog.cellsOf 3))=d[0]? :=p 0 _ rfl;have v:DataW.trod enc Tryz.prog w 0 c true m 3 ((cs.drop 1).take (Tryz.prog.cellsOf 3))=d[1]? :=p 1 _ rfl;have y:DataW.trod enc Tryz.prog w 0 c true m 3 ((cs.drop 2).take (Tryz.prog.cellsOf 3))=d[2]? :=p 2 _ rfl;have z:DataW.trod enc Tryz.prog w 0 c true m 30 ((cs.drop 3).take (Tryz.prog.cellsOf 30))=d[3]? :=p 3 _ rfl;rw[tC]at u v y;rw[jK]at z;rw[qi]at A;obtain⟨j,l,o,e,f,g,h,rfl⟩:∃j l o e f g h,cs=[j,l,o,e,f,g,h]:=by
  match cs,A with
  | [j,l,o,e,f,g,h],_=>exact⟨j,l,o,e,f,g,h,rfl⟩
 obtain⟨y0,y1,y2,i,rfl⟩:∃y0 y1 y2 i,d=[y0,y1,y2,i]:=by
  match d,D with
  | [y0,y1,y2,i],_=>exact⟨y0,y1,y2,i,rfl⟩
 obtain⟨k,q,J,F⟩:=iB Tryz.underlying3 (x:=y0) (by simpa using u);obtain⟨a,r,K,G⟩:=iB Tryz.underlying3 (x:=y1) (by simpa using v);obtain⟨b,s,L,I⟩:=iB Tryz.underlying3 (x:=y2) (by simpa using y);obtain⟨t,B,E,M⟩:=mJ enc w c n m (by omega) [e,f,g,h] i (by simpa using z);simp at q r s;subst q r s J K L;refine⟨((k,a,b),t),?_,⟨⟨yN F,yN G,yN I⟩,E⟩,?_⟩
 ·show _=.int .i64 k::.int .i64 a::.int .i64 b::gR (n+1) t;rw[<-B]
 ·simp only[Lw,Rows.uptoBulk,Rows.uptoBulkAll,aH,bS];omega
theorem AF{H:Type}{enc:TypeId×Value->H}{W:World}{r:Reach}{g:Nat}{v:Value}{d:DataW H}{p:List MemPlace}(u:Value.okWide Tryz.prog W r g 23 v)(b:DataW.Trod enc Tryz.prog W 0 (λ_=>true) true 23 v d p):∃n,∃l:List (Sk n),∃a c,v=.slice a l.length c/\l.length<=c/\c<=maxLen/\pe W.heap.size W 5 (Nv n) (GR n W.heap.size W) a l/\(l.map (Lx n)).sum<=Rows.uptoBulk d:=by
 obtain⟨a,len,cap,rfl⟩:=okWide_slice Tryz.underlying23 u;obtain⟨f,q⟩:=b;have s:DataW.trod enc Tryz.prog W 0 (λ_=>true) true f 23 [.slice a len cap]=some (d,p):=q;obtain⟨e,l,c,i,j,k,m,o⟩:=uF enc W (λ_=>true) 5 (Nv f) (GR f W.heap.size W) (Lx f) 59 23 Tryz.underlying23 tD (by omega) (λ_=>rfl) f (λw h x t b=>Ji enc W _ f w t h x b) f (ai _) _ _ s;exact⟨f,l,e,c,i,j,k,m,by simp only at o;omega⟩
theorem xY{H:Type}{enc:TypeId×Value->H}{W:World}{r:Reach}{g:Nat}{v:Value}{d:DataW H}{p:List MemPlace}(u:Value.okWide Tryz.prog W r g 24 v)(b:DataW.Trod enc Tryz.prog W 0 (λ_=>true) true 24 v d p):∃n,∃l:List (Hn n),∃a c,v=.slice a l.length c/\l.length<=c/\c<=maxLen/\pe W.heap.size W 7 (NI n) (GN n W.heap.size W) a l/\(l.map (Lw n)).sum<=Rows.uptoBulk d:=by
 obtain⟨a,len,cap,rfl⟩:=okWide_slice Tryz.underlying24 u;obtain⟨f,q⟩:=b;have s:DataW.trod enc Tryz.prog W 0 (λ_=>true) true f 24 [.slice a len cap]=some (d,p):=q;obtain⟨e,l,c,i,j,k,m,o⟩:=uF enc W (λ_=>true) 7 (NI f) (GN f W.heap.size W) (Lw f) 32 24 Tryz.underlying24 qi (by omega) (λ_=>rfl) f (λw h x t b=>Cf enc W _ f w t h x b) f (ai _) _ _ s;exact⟨f,l,e,c,i,j,k,m,by simp only at o;omega⟩
theorem AI{b:Type}(f:b->Nat)(l:List b)(y:b)(a:y∈l):f y<=(l.map f).sum:=by
 induction l with
 | nil=>cases a
 | cons c l ih=>
  simp only[aH,bq];rcases cv.1 a with rfl|a
  ·omega
  ·have:=ih a;omega
theorem uz{b:Type}(f:b->Nat)(a:∀y,1<=f y):(l:List b)->l.length<=(l.map f).sum
 | []=>aB _
 | y::l=>by
  have:=uz f a l;have:=a y;simp only[aH,bq,aV];omega
theorem Ik{d:Type}{B k:Nat}{f:d->List Value}{e:d->Prop}{a:Option Addr}{l:List d}{w:World}(b:pe B w k f e a l){j:Nat}{y:d}(c:l[j]?=some y):∃g o,a=some ⟨g,o,none⟩/\g<B/\(∀(t:Nat)(h:Value),(f y)[t]?=some h->w.cell? ⟨g,o+j*k+t,none⟩=some h)/\e y:=by
 rcases b with b|⟨g,o,i,m,b⟩
 ·rw[b]at c;simp at c
 ·exact⟨g,o,i,m,(b j y c).1,(b j y c).2⟩
theorem Ic{a:Type}(l:List a)(d:a):∃b:Nat->a,∀j,j<l.length->l[j]?=some (b j):=⟨λj=>l.getD j d,λj c=>by
 simp only[l6,aD c]
 rfl⟩
def yX(R:Sy->Prop)(w0:World)(room:Int)(i a:Nat)(W:World):Prop:=∃(p:lh)(s:Sy)(d:gf),p.b=a/\aX p s d W/\(oK s/\R s)/\p.room=room/\(d.k<=i*402/\d.es.length<=i*201/\d.wn<=i*201/\d.bn<=i*201)/\ag w0 W/\w0.heap.size<=p.lo
theorem yX.below{R:Sy->Prop}{w0:World}{room:Int}{i c:Nat}{W:World}(a:yX R w0 room i c W):ag w0 W:=by
 obtain⟨_,_,_,_,_,_,_,_,b,_⟩:=a;exact b
theorem Ny{w0 W:World}{p:lh}{s:Sy}{d:gf}{i:Nat}(g:aX p s d W)(w:oK s)(z:d.k<=i*402/\d.es.length<=i*201/\d.wn<=i*201/\d.bn<=i*201)(y:i<=110)(h:ag w0 W)(m:w0.heap.size<=p.lo){n:Nat}(c:Hn n)(j:GN n w0.heap.size w0 c)(t:(ar (n+1) c.2).length<=2097152)(R:Sy->Prop)(u:R (s.do p.n p.prog p.room c.1.1 c.1.2.1 c.1.2.2 (n+1) c.2).1):ah 8 #[.pointer (some ⟨p.b,0,none⟩),.agg #[.int .i64 c.1.1,.int .i64 c.1.2.1,.int .i64 c.1.2.2,.int .i64 c.2.1.1,.int .i64 c.2.1.2.1,.string c.2.1.2.2,.slice c.2.2.1.1 c.2.2.2.length c.2.2.1.2]] W λe w'=>∃v,e=.returned (.int .i64 v)/\Hid (yX R w0 p.room (i+1) p.b w'/\∃f,aX p (s.do p.n p.prog p.room c.1.1 c.1.2.1 c.1.2.2 (n+1) c.2).1 f w'/\fE 201 402 d f W w'):=by
 have o:=j.2.below h;refine(g.do (kd:=c.1.1) (a:=c.1.2.1) (b:=c.1.2.2) ⟨j.1.2.1,j.1.2.2⟩ c.2 ⟨o.mono h.size,(In.offBelow o).mono λx E F=>?_⟩ t (by omega) (by omega) (by omega) (by omega)).mono ?_
 ·have:=(g.low x (by omega)).1;omega
 ·rintro e w' ⟨v,rfl,r⟩;obtain⟨_,f,q,l⟩:=r.out;exact⟨v,rfl,⟨p,_,f,rfl,q,⟨w.do _ _ _ _ _,u⟩,rfl,by obtain⟨_,_,A,B,C,D⟩:=l;omega,h.trans (qO g l m),m⟩,f,q,l⟩
theorem Df(R:Sy->Prop)(Z:R JV)(ab:∀{n:Nat}{prog:List (Bh (n+1))}{room:Int}{s:Sy}(nm:ByteArray)(k:Nat)(x:Tm k),R s->R (s.start n prog room nm k x).1)(n:Nat)(l:List (Bh (n+1)))(v:Option Addr)(y:Nat)(room:Int)(G:Nat)(q:List (Sk G))(sa:Option Addr)(sc:Nat)(w W:World)(ad:gF (n+1) w.heap.size w v l)(ai:l.length<=y)(ak:y<=maxLen)(aa:jP (n+1) l=true->(ar (n+6) (bR n l)).length<=2097152)(al:pe w.heap.size w 5 (Nv G) (GR G w.heap.size w) sa q)(am:∀c∈q,(ar (G+1) c.2).length<=2097152)(ax:q.length<=1048576)(C:ag w W):ah 6 #[.slice v l.length y,.int .i64 room,.slice sa q.length sc] W λe w'=>(e=.returned (.pointer none)/\Hid (ag w w'))\/∃g,e=.returned (.pointer (some ⟨g,0,none⟩))/\Hid (yX R w room (4+0) g w'):=by
 obtain⟨i,P⟩:=Ic q (⟨#[]⟩,((0,0,⟨#[]⟩),(none,0),[]));have aj:(maxLen:Nat)=9223372036854775807:=rfl;have M:=C.size;have u:∀{W:World}{j o:Nat}{f:Value},ag w W->j<w.heap.size->w.cell? ⟨j,o,none⟩=some f->W.cell? ⟨j,o,none⟩=some f:=λ{W j o f} d m r=>(d.cell (p:=⟨j,o,none⟩) m).trans r;refine(BP v l.length y room sa q.length sc (λa=>(i a).1) (λa=>(i a).2.1.2.2) (λa=>(i a).2.1.1) (λa=>(i a).2.1.2.1) (λa=>(i a).2.2.1.1) (λa=>(i a).2.2.2.length) (λa=>(i a).2.2.1.2) W (λf H h=>Mc n l room W f H h) (λg a h=>q.length<=4/\yX R w room a g h) (λf h=>(f=.pointer none/\ag w h)\/∃g,f=.pointer (some ⟨g,0,none⟩)/\yX R w room (4+0) g h) (by omega) (A8 n l v y room W ?_ ai ak aa) (λf H h B ay=>?_) (λf h B A=>?_) (λg a h Q J=>?_) λg h J=>?_).mono ?_
 ·have V:=cq (dI (n+1)) 2 (oM (n+1)) v;exact V.2.2.2.1 _ _ _ _ M (ad.below C)
 ·exact ae ⟨rfl,C.trans (B.2.1.mono M)⟩
 ·obtain⟨p,z,rfl,S,⟨ao,T,ap,az⟩,aq,aA,aD,aE⟩:=B.2.2.2 rfl;exact⟨p.b,rfl,A,p,JV,z,rfl,S,⟨(λ_ r=>(by cases r)),Z⟩,aq,⟨by omega,by rw[T];exact aB _,by omega,by omega⟩,C.trans (B.2.1.mono M),by omega⟩
 ·obtain⟨A,p,s,z,rfl,E,F,N,an,d,D⟩:=J;obtain⟨j,o,Y,m,t,O⟩:=Ik al (P a Q);refine⟨j,o,⟨Y,u d m (t 0 _ rfl),u d m (t 1 _ rfl),u d m (t 2 _ rfl),u d m (t 3 _ rfl),u d m (t 4 _ rfl)⟩,λav K=>?_⟩;have L:=d.trans (K.mono d.size);refine((E.later K).start (i a).1 (aw O.1 (dk aj)) (i a).2 ((O.2.below L).mono L.size) (am _ (aC (P a Q))) (by omega) (by omega)).mono ?_;rintro e w' ⟨f,H,rfl,I⟩;obtain⟨_,X,au,U⟩:=I.out;exact⟨f,H,rfl,A,p,_,X,rfl,au,⟨F.1.start _ _ _,ab _ _ _ F.2⟩,N,by obtain⟨_,_,S,ao,T,ap⟩:=U;omega,L.trans (qO (E.later K) U D),D⟩
 ·obtain⟨A,p,s,z,rfl,E,F,N,an,d,D⟩:=J;exact af ⟨_,rfl,p,s,z,rfl,E,F,N,by omega,d,D⟩
 ·rintro e w' ⟨f,rfl,I⟩;rcases I.out with⟨rfl,d⟩|⟨g,rfl,r⟩
  ·exact ae ⟨rfl,d⟩
  ·exact af ⟨g,rfl,r⟩
theorem DN:(l:List (Int×Int×Int×Tc))->∀{s:Sy},BX s l=true->∀{j:Nat}{e:Int×Int×Int×Tc},l[j]?=some e->(Hi (xC s (l.take j)) e).2=0
 | [],_,_,_,_,h=>by simp at h
 | a::l,s,h,0,e,he=>by
  obtain rfl:a=e:=by simpa using he
  simp only[BX,ay,b9]at h;exact h.1
 | a::l,s,h,j+1,e,he=>by
  simp only[BX,ay]at h;exact DN l h.2 (by simpa using he)
theorem Hj(s:Sy){l:List (Int×Int×Int×Tc)}{j:Nat}{e:Int×Int×Int×Tc}(a:l[j]?=some e):xC s (l.take (j+1))=(Hi (xC s (l.take j)) e).1:=by
 rw[dt,a];simp[xC]
theorem Bk{w0:World}{V:Nat->Prop}{a:World}{s:Sy}{i h:Nat}{W:World}(v:BE w0 V a s i h W)(l:List (Int×Int×Int×Tc))(C:BX s l=true)(N:i+l.length<=100)(g c:Nat)(t:V g)(k:Nat->Nat)(x:(j:Nat)->Tm (k j+1))(E:∀j e,l[j]?=some e->(In a.heap.size a (k j+1) (x j)/\bV V (k j+1) (x j))/\(ar (k j+1) (x j)).length<=2097152/\(au (k j+1) (x j) 13 e.2.2.2=true\/e.1≠3)/\I2 (e.2.1,e.2.2.1))(B:∀j e,l[j]?=some e->a.cell? ⟨g,j*7,none⟩=some (.int .i64 e.1)/\a.cell? ⟨g,j*7+1,none⟩=some (.int .i64 e.2.1)/\a.cell? ⟨g,j*7+2,none⟩=some (.int .i64 e.2.2.1)/\a.cell? ⟨g,j*7+3,none⟩=some (.int .i64 (x j).1.1)/\a.cell? ⟨g,j*7+4,none⟩=some (.int .i64 (x j).1.2.1)/\a.cell? ⟨g,j*7+5,none⟩=some (.string (x j).1.2.2)/\a.cell? ⟨g,j*7+6,none⟩=some (.slice (x j).2.1.1 (x j).2.2.length (x j).2.1.2)):ah 20 #[.pointer (some ⟨h,0,none⟩),.slice (some ⟨g,0,none⟩) l.length c] W λe w'=>e=.returned (.bool true)/\Hid (BE w0 V a (xC s l) (i+l.length) h w'):=by
 obtain⟨f,z⟩:∃f:Nat->Int×Int×Int×Tc,∀j,j<l.length->l[j]?=some (f j):=⟨λj=>l.getD j (0,0,0,ve),λj p=>by
  simp only[l6,aD p]
  rfl⟩
 have D:xC s (l.take l.length)=xC s l:=by rw[List.take_length]
 have:=Gn h g l.length c (λj=>(f j).1) (λj=>(f j).2.1) (λj=>(f j).2.2.1) (λj=>(x j).1.1) (λj=>(x j).1.2.1) (λj=>(x j).1.2.2) (λj=>(x j).2.1.1) (λj=>(x j).2.2.length) (λj=>(x j).2.1.2) W (λj n=>BE w0 V a (xC s (l.take j)) (i+j) h n) (by omega) v (λj n p r=>?_)
 ·rw[<-D];exact this
 ·have m:=z j p;obtain⟨G,H,I,J⟩:=E j _ m;have b:=B j _ m;have d:∀{o:Nat}{q:Value},a.cell? ⟨g,o,none⟩=some q->n.cell? ⟨g,o,none⟩=some q:=λ{o q} F=>by
   obtain⟨O,M,_,_,_,_,_,w,y⟩:=r;rw[y.cell o (w g t).1 λK=>K t];exact F
  refine⟨⟨d b.1,d b.2.1,d b.2.2.1,d b.2.2.2.1,d b.2.2.2.2.1,d b.2.2.2.2.2.1,d b.2.2.2.2.2.2⟩,λL A=>?_⟩;refine(Li (r.later A) (by omega) (f j) J (x j) G H I).mono ?_;rintro e w' ⟨rfl,u⟩;rw[DN l C m];refine⟨rfl,?_⟩;rw[Hj s m];exact u.out
theorem Jw(a:Nat)(W:World):(binOp .eql 26 (.pointer (some ⟨a,0,none⟩)) (.pointer none)).run Tryz.prog W=.ok (.bool false) W:=by kernel_rfl
def GJ(r:Nat)(W:World):Prop:=W.heap[r]?=some (.cells #[.int .i64 1,.int .i64 1,.int .i64 0,.int .i64 0,.int .i64 0,.string ⟨#[]⟩,.slice none 0 0] 32)
theorem og{r:Nat}{w W:World}(b:GJ r w)(c:ag w W):W.cell? ⟨r,0,none⟩=some (Value.int .i64 1)/\W.cell? ⟨r,1,none⟩=some (Value.int .i64 1)/\W.cell? ⟨r,2,none⟩=some (Value.int .i64 0)/\W.cell? ⟨r,3,none⟩=some (Value.int .i64 0)/\W.cell? ⟨r,4,none⟩=some (Value.int .i64 0)/\W.cell? ⟨r,5,none⟩=some (Value.string ⟨#[]⟩)/\W.cell? ⟨r,6,none⟩=some (Value.slice none 0 0):=by
 have a:W.heap[r]?=some (.cells #[.int .i64 1,.int .i64 1,.int .i64 0,.int .i64 0,.int .i64 0,.string ⟨#[]⟩,.slice none 0 0] 32):=(c.block r (aA.1 b).1).trans b;exact⟨ab a 0,ab a 1,ab a 2,ab a 3,ab a 4,ab a 5,ab a 6⟩
theorem F6(w:World)(M:Option Addr->Nat->Nat->World->Prop)(aF aG:Nat->World->Prop)(L:Nat->Nat->World->Prop)(aH:Nat->World->Prop)(aI:Option Addr->Nat->World->Prop)(aK aL aM:Nat->Int->Int->ByteArray->Option Addr->Nat->Nat->World->Prop)(ao:Hid (ah 18 #[] w λe w'=>∃a l c,e=.returned (.slice a l c)/\Hid (M a l c w')))(ap:Hid (∀a l c W,M a l c W->ah 17 #[.slice a l c,.int .i64 60] W λe w'=>∃b,e=.returned (.tuple #[.pointer (some ⟨b,0,none⟩),.int .i64 0])/\Hid (aF b w')))(A:Hid (∀b W,aF b W->ah 19 #[.pointer (some ⟨b,0,none⟩),.string ⟨#[99,111,117,110,116]⟩,.agg #[.int .i64 1,.int .i64 2,.string ⟨#[]⟩,.slice none 0 0]] W λe w'=>e=.returned (.tuple #[.int .i64 1,.int .i64 0])/\Hid (aG b w')))(aB:Hid (∀W,ah 21 #[.int .i64 1,.string ⟨#[40,117,112,32,51,41]⟩] W λe w'=>∃y0 y1 y2 ya yl yc,e=.returned (.agg #[.int .i64 3,.int .i64 1,.int .i64 0,.int .i64 y0,.int .i64 y1,.string y2,.slice ya yl yc])/\Hid (aK W.heap.size y0 y1 y2 ya yl yc w'/\ag W w')))(aC:Hid (∀W,ah 21 #[.int .i64 1,.string ⟨#[102,111,114,107]⟩] W λe w'=>∃y0 y1 y2 ya yl yc,e=.returned (.agg #[.int .i64 3,.int .i64 1,.int .i64 0,.int .i64 y0,.int .i64 y1,.string y2,.slice ya yl yc])/\Hid (aL W.heap.size y0 y1 y2 ya yl yc w'/\ag W w')))(aD:Hid (∀W,ah 21 #[.int .i64 1,.string ⟨#[98,97,100]⟩] W λe w'=>∃y0 y1 y2 ya yl yc,e=.returned (.agg #[.int .i64 3,.int .i64 1,.int .i64 0,.int .i64 y0,.int .i64 y1,.string y2,.slice ya yl yc])/\Hid (aM W.heap.size y0 y1 y2 ya yl yc w'/\ag W w')))(av:Hid (∀b r g ae B2 p h s R y0 y1 y2 ya yl yc V X Y Z ad aa,aG b p->(ag p h/\p.heap.size=r/\GJ r h)->(r<ae/\r<B2)->aK ae y0 y1 y2 ya yl yc h->ag h s->aL B2 V X Y Z ad aa s->ag s R->(s.heap.size<=g/\R.heap[g]?=some (.cells #[.int .i64 3,.int .i64 1,.int .i64 0,.int .i64 y0,.int .i64 y1,.string y2,.slice ya yl yc,.int .i64 1,.int .i64 1,.int .i64 0,.int .i64 0,.int .i64 0,.string ⟨#[]⟩,.slice none 0 0,.int .i64 3,.int .i64 1,.int .i64 0,.int .i64 V,.int .i64 X,.string Y,.slice Z ad aa,.int .i64 1,.int .i64 1,.int .i64 0,.int .i64 0,.int .i64 0,.string ⟨#[]⟩,.slice none 0 0,.int .i64 2,.int .i64 1,.int .i64 2,.int .i64 0,.int .i64 0,.string ⟨#[]⟩,.slice none 0 0,.int .i64 1,.int .i64 2,.int .i64 0,.int .i64 0,.int .i64 0,.string ⟨#[]⟩,.slice none 0 0] 32))->ah 20 #[.pointer (some ⟨b,0,none⟩),.slice (some ⟨g,0,none⟩) 6 6] R λe w'=>e=.returned (.bool true)/\Hid (L b r w'/\GJ r w')))(ar:Hid (∀b r W,L b r W->ah 7 #[.pointer (some ⟨b,0,none⟩),.int .i64 2] W λe w'=>∃nm U sa sl sc ma aS aR,e=.returned (.tuple #[.string nm,.agg #[.int .i64 1,.int .i64 7,.string U,.slice sa sl sc],.slice ma aS aR,.int .i64 0])/\ag W w'))(O:Hid (∀b r W o,L b r W->ag W o->ah 12 #[.pointer (some ⟨b,0,none⟩)] o λe w'=>∃a c,e=.returned (.slice a 2 c)/\Hid (aI a c w'/\ag o w')))(Q:Hid (∀a c g W o,aI a c W->ag W o->o.heap[g]?=some (.cells #[.int .i64 1,.int .i64 2] 3)->ah 22 #[.slice a 2 c,.slice (some ⟨g,0,none⟩) 2 2] o λe w'=>e=.returned (.bool true)/\ag o w'))(ay:Hid (∀b r q g B p h s y0 y1 y2 ya yl yc,L b r p->(ag p h/\p.heap.size<=q/\h.cell? ⟨q,1,none⟩=some (.int .i64 7))->p.heap.size<=B->aM B y0 y1 y2 ya yl yc h->GJ r h->ag h s->(h.heap.size<=g/\s.heap[g]?=some (.cells #[.int .i64 3,.int .i64 1,.int .i64 0,.int .i64 y0,.int .i64 y1,.string y2,.slice ya yl yc,.int .i64 1,.int .i64 1,.int .i64 0,.int .i64 0,.int .i64 0,.string ⟨#[]⟩,.slice none 0 0] 32))->ah 20 #[.pointer (some ⟨b,0,none⟩),.slice (some ⟨g,0,none⟩) 2 2] s λe w'=>e=.returned (.bool true)/\Hid (aH b w'/\GJ r w'/\w'.cell? ⟨q,1,none⟩=some (.int .i64 7))))(aE:Hid (∀b W,aH b W->ah 12 #[.pointer (some ⟨b,0,none⟩)] W λe w'=>∃a c,e=.returned (.slice a 0 c)/\ag w w')):ah 5 #[] w λe w'=>e=.returned (.bool true)/\ag w w':=by
 go_enter Tryz.func5,Tryz.ntmps5;go_wp2_with fail;refine ao.out.mono ?_;rintro e a8 ⟨a,l,c,rfl,af⟩;have aq:=aj (ap.out _ _ _ _ af.out);clear ao ap af;go_wp2_with fail;refine aq.out.mono ?_;rintro e bb ⟨b,rfl,al⟩;have az:=aj (A.out _ _ al.out);have a7:=Jw b;clear aq A al;go_wp2_with fail;refine az.out.mono ?_;rintro e t ⟨rfl,am⟩;clear az;go_upto_region 6 with fail;generalize aQ:t.alloc _=C;have x:Hid (ag t C/\t.heap.size=t.heap.size/\GJ t.heap.size C):=by
  rw[<-aQ];exact⟨(ak _ _).alloc (ai _) _,rfl,ax _ _⟩
 clear aQ;have y:Hid (∀W,ag C W->ag t W/\GJ t.heap.size W):=λW i=>⟨x.out.1.trans (i.mono x.out.1.size),(i.block _ (aA.1 x.out.2.2).1).trans x.out.2.2⟩;generalize S:t.heap.size=r at*;have d:=aj (λW (i:ag C W)=>og x.out.2.2 i);have E:Hid (ag C C.drew):=(ak _ _).drew
 go_region_held3 (λW=>W.cell? ⟨r,0,none⟩=some (Value.int .i64 1)/\W.cell? ⟨r,1,none⟩=some (Value.int .i64 1)/\W.cell? ⟨r,2,none⟩=some (Value.int .i64 0)/\W.cell? ⟨r,3,none⟩=some (Value.int .i64 0)/\W.cell? ⟨r,4,none⟩=some (Value.int .i64 0)/\W.cell? ⟨r,5,none⟩=some (Value.string ⟨#[]⟩)/\W.cell? ⟨r,6,none⟩=some (Value.slice none 0 0)) (first|exact d.out _ E.out|exact d.out _ m.out|exact d.out _ I.out|exact d.out _ (I.out.alloc I.out.size _)|exact og n.out.2 (ak _ _)) ((first
  | (go_at_call 21;first
      | (refine(aB.out _).mono ?_;rintro e a3 ⟨y0,y1,y2,ya,yl,yc,rfl,P⟩;have m:=aj (E.out.trans (P.out.2.mono E.out.size));clear aB)
      | (refine(aC.out _).mono ?_;rintro e a4 ⟨V,X,Y,Z,ad,aa,rfl,J⟩;have I:=aj (m.out.trans (J.out.2.mono m.out.size));clear aC))
  | (go_at_call 20;refine(av.out _ _ _ _ _ _ a3 a4 _ _ _ _ _ _ _ _ _ _ _ _ _ am.out ⟨by first|(rw[S];exact(y.out _ m.out).1)|exact(y.out _ m.out).1,S,(y.out _ m.out).2⟩ ⟨(aA.1 (y.out _ E.out).2).1,(aA.1 (y.out _ m.out).2).1⟩ P.out.1 J.out.2 J.out.1 ((ak _ _).alloc (ai _) _) ⟨ai _,ax _ _⟩).mono ?_;rintro e aT ⟨rfl,n⟩)))
 have au:=aj (ar.out _ _ _ n.out.1);clear av ar x y d E am m I P J S;go_upto_region 8 with fail;go_wp2_with fail;refine au.out.mono ?_;rintro e H ⟨nm,U,sa,sl,sc,ma,aS,aR,rfl,aP⟩;have K:=aj aP;clear au aP;go_upto_region 9 with fail;generalize T:H.alloc _=j;have f:Hid (ag aT j/\aT.heap.size<=H.heap.size/\∀W,ag j W->W.cell? ⟨H.heap.size,1,none⟩=some (.int .i64 7)):=by
  have aN:j.heap[H.heap.size]?=some (.cells #[.int .i64 1,.int .i64 7,.string U,.slice sa sl sc] 30):=by
   rw[<-T];exact ax _ _
  refine⟨K.out.trans (by rw[<-T];exact(ak _ _).alloc K.out.size _),K.out.size,λW i=>?_⟩;have aZ:=(i.block _ (aA.1 aN).1).trans aN;exact ab aZ 1
 generalize H.heap.size=q at*;clear T K;have A:Hid (∀W,ag j W->GJ r W):=λW i=>(i.block _ (aJ (aA.1 n.out.2).1 f.out.1.size)).trans ((f.out.1.block _ (aA.1 n.out.2).1).trans n.out.2);have d:Hid (∀W,ag j W->(W.cell? ⟨r,0,none⟩=some (Value.int .i64 1)/\W.cell? ⟨r,1,none⟩=some (Value.int .i64 1)/\W.cell? ⟨r,2,none⟩=some (Value.int .i64 0)/\W.cell? ⟨r,3,none⟩=some (Value.int .i64 0)/\W.cell? ⟨r,4,none⟩=some (Value.int .i64 0)/\W.cell? ⟨r,5,none⟩=some (Value.string ⟨#[]⟩)/\W.cell? ⟨r,6,none⟩=some (Value.slice none 0 0))/\W.cell? ⟨q,1,none⟩=some (.int .i64 7)):=λW i=>⟨og (A.out W i) (ak _ _),f.out.2.2 W i⟩;have F:Hid (ag j j.drew):=(ak _ _).drew;have z:Hid (ag j (j.alloc (.cells #[.int .i64 1,.int .i64 2] 3)).drew/\(j.alloc (.cells #[.int .i64 1,.int .i64 2] 3)).drew.heap[j.heap.size]?=some (.cells #[.int .i64 1,.int .i64 2] 3)):=⟨((ak _ _).alloc (ai _) _).drew,ax _ _⟩
 go_region_held3 (λW=>(W.cell? ⟨r,0,none⟩=some (Value.int .i64 1)/\W.cell? ⟨r,1,none⟩=some (Value.int .i64 1)/\W.cell? ⟨r,2,none⟩=some (Value.int .i64 0)/\W.cell? ⟨r,3,none⟩=some (Value.int .i64 0)/\W.cell? ⟨r,4,none⟩=some (Value.int .i64 0)/\W.cell? ⟨r,5,none⟩=some (Value.string ⟨#[]⟩)/\W.cell? ⟨r,6,none⟩=some (Value.slice none 0 0))/\W.cell? ⟨q,1,none⟩=some (.int .i64 7)) (first|exact d.out _ F.out|exact d.out _ z.out.1|exact d.out _ k.out|exact d.out _ (k.out.alloc k.out.size _)|exact d.out _ D.out|exact d.out _ v.out|exact d.out _ (v.out.alloc v.out.size _)|exact⟨og N.out.2.1 (ak _ _),N.out.2.2⟩) ((first
  | (go_at_call 12;first
      | (refine(O.out _ _ _ _ n.out.1 (f.out.1.trans (F.out.mono f.out.1.size))).mono ?_;rintro e a0 ⟨aX,aY,rfl,u⟩;have k:=aj (F.out.trans (u.out.2.mono F.out.size)))
      | (refine(O.out _ _ _ _ n.out.1 (f.out.1.trans (z.out.1.mono f.out.1.size))).mono ?_;rintro e a0 ⟨aX,aY,rfl,u⟩;have k:=aj (z.out.1.trans (u.out.2.mono z.out.1.size));have aV:=aj ((u.out.2.block _ (aA.1 z.out.2).1).trans z.out.2)))
  | (go_at_call 22;first
      | (refine(Q.out _ _ _ _ _ u.out.1 (ak _ _) aV.out).mono ?_;rintro e a1 ⟨rfl,G⟩;have D:=aj (k.out.trans (G.mono k.out.size));clear G)
      | (refine(Q.out _ _ _ _ _ u.out.1 ((ak _ _).alloc (ai _) _) (ax _ _)).mono ?_;rintro e a1 ⟨rfl,G⟩;have D:=aj ((k.out.alloc k.out.size _).trans (G.mono (k.out.alloc k.out.size _).size));clear G))
  | (go_at_call 21;refine(aD.out _).mono ?_;rintro e a2 ⟨y0,y1,y2,ya,yl,yc,rfl,an⟩;have v:=aj (D.out.trans (an.out.2.mono D.out.size)))
  | (go_at_call 20;refine(ay.out _ _ q _ _ _ a2 _ _ _ _ _ _ _ n.out.1 ⟨f.out.1.trans (v.out.mono f.out.1.size),f.out.2.1,f.out.2.2 _ v.out⟩ (aw f.out.1.size D.out.size) an.out.1 (A.out _ v.out) ((ak _ _).alloc (ai _) _) ⟨ai _,ax _ _⟩).mono ?_;rintro e a9 ⟨rfl,N⟩)))
 all_goals
  have aW:=aj (aE.out _ _ N.out.1);clear O Q ay aE aD A d F f;go_upto_region 11 with fail;go_wp2_with fail;refine aW.out.mono ?_;rintro e ba ⟨a5,a6,rfl,aO⟩;have aU:=aj aO;clear aO;go_wp2_with fail
  go_ret
  exact⟨rfl,aU.out⟩
end Go.Proofs.YtckamaoibonjcaaGreat
