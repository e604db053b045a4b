/- What is proved here: plain facts and contracts that the claimed theorem stands on. No condition but those that each names. -/
import Derived.Test.YtckamaoibonjcaaGreatH42
namespace Go.Proofs.YtckamaoibonjcaaGreat
open Go.ChangeShapes Go.WideShapes Go.ChangeAt Go.RowKit
open Go.RowKit
set_option maxRecDepth 100000
set_option maxHeartbeats 4000000
abbrev Sk(n:Nat):Type:=ByteArray×Tm (n+1)
def NT(n:Nat)(c:Sk n):List Value:=ae c.1::gX (n+1) c.2
def LV(n:Nat)(c:Sk n):Nat:=wt (n+1) c.2+1
def G9(n:Nat)(B:Nat)(w:World)(c:Sk n):Prop:=c.1.size<=maxLen/\In B w (n+1) c.2
abbrev Hn(n:Nat):Type:=(Int×Int×Int)×Tm (n+1)
def N5(n:Nat)(c:Hn n):List Value:=ab c.1.1::ab c.1.2.1::ab c.1.2.2::gX (n+1) c.2
def LU(n:Nat)(c:Hn n):Nat:=wt (n+1) c.2+1
def EE(n:Nat)(B:Nat)(w:World)(c:Hn n):Prop:=(dk c.1.1/\dk c.1.2.1/\dk c.1.2.2)/\In B w (n+1) c.2
theorem tP:Tryz.prog.cellsOf 59=5:=by kernel_rfl
theorem qp:Tryz.prog.cellsOf 32=7:=by kernel_rfl
theorem JB{H:Type}(enc:TypeId×Value->H)(w:World)(g:Nat->Bool)(n m:Nat)(A:m<=n)(cs:List Value)(x:DataW H×List MemPlace)(r:DataW.trod enc Tryz.prog w 0 g true m 59 cs=some x):∃a:Sk n,cs=NT n a/\G9 n w.heap.size w a/\LV n a<=Rows.uptoBulk x.1:=by
 obtain⟨h,m,rfl,rfl,o,s,l⟩:=iI Tryz.underlying59 r;have j:DataW.trod enc Tryz.prog w 0 g true m 9 ((cs.drop 0).take (Tryz.prog.cellsOf 9))=h[0]? :=l 0 _ rfl;have k:DataW.trod enc Tryz.prog w 0 g true m 30 ((cs.drop 1).take (Tryz.prog.cellsOf 30))=h[1]? :=l 1 _ rfl;rw[kO]at j;rw[jK]at k;rw[tP]at o;obtain⟨f,b,c,d,e,rfl⟩:∃f b c d e,cs=[f,b,c,d,e]:=by
  match cs,o with
  | [f,b,c,d,e],_=>exact⟨f,b,c,d,e,rfl⟩
 obtain⟨y0,y1,rfl⟩:∃y0 y1,h=[y0,y1]:=by
  match h,s with
  | [y0,y1],_=>exact⟨y0,y1,rfl⟩
 obtain⟨p,i,y,v⟩:=oC Tryz.underlying9 (x:=y0) (by simpa using j);obtain⟨t,q,u,z⟩:=mQ enc w g n m (by omega) [b,c,d,e] y1 (by simpa using k);simp at i;subst i y;refine⟨(p,t),?_,⟨v,u⟩,?_⟩
 ·show _=ae p::gX (n+1) t;rw[<-q]
 ·simp only[LV,Rows.uptoBulk,Rows.uptoBulkAll,aI,bR];omega
theorem Cp{H:Type}(enc:TypeId×Value->H)(w:World)(c:Nat->Bool)(n m:Nat)(N:m<=n)(cs:List Value)(x:DataW H×List MemPlace)(C:DataW.trod enc Tryz.prog w 0 c true m 32 cs=some x):∃a:Hn n,cs=N5 n a/\EE n w.heap.size w a/\LU n a<=Rows.uptoBulk x.1:=by
 obtain⟨d,m,rfl,rfl,A,D,p⟩:=iI Tryz.underlying32 C;have u:DataW.trod enc Tryz.prog w 0 c true m 3 ((cs.drop 0).take (Tryz.prog.cellsOf 3))=d[0]? :=p 0 _ rfl;have v:DataW.trod enc Tryz.prog w 0 c true m 3 ((cs.drop 1).take (Tryz.prog.cellsOf 3))=d[1]? :=p 1 _ rfl;have y:DataW.trod enc Tryz.prog w 0 c true m 3 ((cs.drop 2).take (Tryz.prog.cellsOf 3))=d[2]? :=p 2 _ rfl;have z:DataW.trod enc Tryz.prog w 0 c true m 30 ((cs.drop 3).take (Tryz.prog.cellsOf 30))=d[3]? :=p 3 _ rfl;rw[tO]at u v y;rw[jK]at z;rw[qp]at A;obtain⟨j,l,o,e,f,g,h,rfl⟩:∃j l o e f g h,cs=[j,l,o,e,f,g,h]:=by
  match cs,A with
  | [j,l,o,e,f,g,h],_=>exact⟨j,l,o,e,f,g,h,rfl⟩
 obtain⟨y0,y1,y2,i,rfl⟩:∃y0 y1 y2 i,d=[y0,y1,y2,i]:=by
  match d,D with
  | [y0,y1,y2,i],_=>exact⟨y0,y1,y2,i,rfl⟩
 obtain⟨k,q,J,F⟩:=iH Tryz.underlying3 (x:=y0) (by simpa using u);obtain⟨a,r,K,G⟩:=iH Tryz.underlying3 (x:=y1) (by simpa using v);obtain⟨b,s,L,I⟩:=iH Tryz.underlying3 (x:=y2) (by simpa using y);obtain⟨t,B,E,M⟩:=mQ enc w c n m (by omega) [e,f,g,h] i (by simpa using z);simp at q r s;subst q r s J K L;refine⟨((k,a,b),t),?_,⟨⟨yV F,yV G,yV I⟩,E⟩,?_⟩
 ·show _=ab k::ab a::ab b::gX (n+1) t;rw[<-B]
 ·simp only[LU,Rows.uptoBulk,Rows.uptoBulkAll,aI,bR];omega
theorem AN{H:Type}{enc:TypeId×Value->H}{W:World}{r:Reach}{g:Nat}{v:Value}{d:DataW H}{p:List MemPlace}(u:Value.okWide Tryz.prog W r g 23 v)(b:DataW.Trod enc Tryz.prog W 0 (λ_=>true) true 23 v d p):∃n,∃l:List (Sk n),∃a c,v=.slice a l.length c/\l.length<=c/\c<=maxLen/\pr W.heap.size W 5 (NT n) (G9 n W.heap.size W) a l/\(l.map (LV n)).sum<=Rows.uptoBulk d:=by
 obtain⟨a,len,cap,rfl⟩:=okWide_slice Tryz.underlying23 u;obtain⟨f,q⟩:=b;have s:DataW.trod enc Tryz.prog W 0 (λ_=>true) true f 23 [.slice a len cap]=some (d,p):=q;obtain⟨e,l,c,i,j,k,m,o⟩:=uS enc W (λ_=>true) 5 (NT f) (G9 f W.heap.size W) (LV f) 59 23 Tryz.underlying23 tP (by omega) (λ_=>rfl) f (λw h x t b=>JB enc W _ f w t h x b) f (aj _) _ _ s;exact⟨f,l,e,c,i,j,k,m,by simp only at o;omega⟩
theorem yn{H:Type}{enc:TypeId×Value->H}{W:World}{r:Reach}{g:Nat}{v:Value}{d:DataW H}{p:List MemPlace}(u:Value.okWide Tryz.prog W r g 24 v)(b:DataW.Trod enc Tryz.prog W 0 (λ_=>true) true 24 v d p):∃n,∃l:List (Hn n),∃a c,v=.slice a l.length c/\l.length<=c/\c<=maxLen/\pr W.heap.size W 7 (N5 n) (EE n W.heap.size W) a l/\(l.map (LU n)).sum<=Rows.uptoBulk d:=by
 obtain⟨a,len,cap,rfl⟩:=okWide_slice Tryz.underlying24 u;obtain⟨f,q⟩:=b;have s:DataW.trod enc Tryz.prog W 0 (λ_=>true) true f 24 [.slice a len cap]=some (d,p):=q;obtain⟨e,l,c,i,j,k,m,o⟩:=uS enc W (λ_=>true) 7 (N5 f) (EE f W.heap.size W) (LU f) 32 24 Tryz.underlying24 qp (by omega) (λ_=>rfl) f (λw h x t b=>Cp enc W _ f w t h x b) f (aj _) _ _ s;exact⟨f,l,e,c,i,j,k,m,by simp only at o;omega⟩
theorem AQ{b:Type}(f:b->Nat)(l:List b)(y:b)(a:y∈l):f y<=(l.map f).sum:=by
 induction l with
 | nil=>cases a
 | cons c l ih=>
  simp only[aI,bC];rcases cB.1 a with rfl|a
  ·omega
  ·have:=ih a;omega
theorem uM{b:Type}(f:b->Nat)(a:∀y,1<=f y):(l:List b)->l.length<=(l.map f).sum
 | []=>aF _
 | y::l=>by
  have:=uM f a l;have:=a y;simp only[aI,bC,aZ];omega
theorem IH{d:Type}{B k:Nat}{f:d->List Value}{e:d->Prop}{a:Option Addr}{l:List d}{w:World}(b:pr B w k f e a l){j:Nat}{y:d}(c:l[j]?=some y):∃g o,a=some ⟨g,o,none⟩/\g<B/\(∀(t:Nat)(h:Value),(f y)[t]?=some h->w.cell? ⟨g,o+j*k+t,none⟩=some h)/\e y:=by
 rcases b with b|⟨g,o,i,m,b⟩
 ·rw[b]at c;simp at c
 ·exact⟨g,o,i,m,(b j y c).1,(b j y c).2⟩
theorem IB{a:Type}(l:List a)(d:a):∃b:Nat->a,∀j,j<l.length->l[j]?=some (b j):=⟨λj=>l.getD j d,λj c=>by
 simp only[mf,aE c]
 rfl⟩
def EI(R:Sy->Prop)(w0:World)(room:Int)(i a:Nat)(W:World):Prop:=∃(p:kJ)(s:Sy)(d:fS),p.b=a/\aX p s d W/\(nr s/\R s)/\p.room=room/\(d.k<=i*402/\d.es.length<=i*201/\d.wn<=i*201/\d.bn<=i*201)/\ai w0 W/\w0.heap.size<=p.lo
theorem EI.below{R:Sy->Prop}{w0:World}{room:Int}{i c:Nat}{W:World}(a:EI R w0 room i c W):ai w0 W:=by
 obtain⟨_,_,_,_,_,_,_,_,b,_⟩:=a;exact b
theorem NW{w0 W:World}{p:kJ}{s:Sy}{d:fS}{i:Nat}(g:aX p s d W)(w:nr s)(z:d.k<=i*402/\d.es.length<=i*201/\d.wn<=i*201/\d.bn<=i*201)(y:i<=110)(h:ai w0 W)(m:w0.heap.size<=p.lo){n:Nat}(c:Hn n)(j:EE n w0.heap.size w0 c)(t:(av (n+1) c.2).length<=2097152)(R:Sy->Prop)(u:R (s.do p.n p.prog p.room c.1.1 c.1.2.1 c.1.2.2 (n+1) c.2).1):ak 8 #[.pointer (some ⟨p.b,0,none⟩),.agg #[ab c.1.1,ab c.1.2.1,ab c.1.2.2,ab c.2.1.1,ab c.2.1.2.1,ae c.2.1.2.2,.slice c.2.2.1.1 c.2.2.2.length c.2.2.1.2]] W λe w'=>∃v,e=.returned (ab v)/\Hid (EI R w0 p.room (i+1) p.b w'/\∃f,aX p (s.do p.n p.prog p.room c.1.1 c.1.2.1 c.1.2.2 (n+1) c.2).1 f w'/\fK 201 402 d f W w'):=by
 have o:=j.2.below h;refine(g.do (kd:=c.1.1) (a:=c.1.2.1) (b:=c.1.2.2) ⟨j.1.2.1,j.1.2.2⟩ c.2 ⟨o.mono h.size,(In.offBelow o).mono λx E F=>?_⟩ t (by omega) (by omega) (by omega) (by omega)).mono ?_
 ·have:=(g.low x (by omega)).1;omega
 ·rintro e w' ⟨v,rfl,r⟩;obtain⟨_,f,q,l⟩:=r.out;exact⟨v,rfl,⟨p,_,f,rfl,q,⟨w.do _ _ _ _ _,u⟩,rfl,by obtain⟨_,_,A,B,C,D⟩:=l;omega,h.trans (qU g l m),m⟩,f,q,l⟩
theorem Dq(R:Sy->Prop)(Z:R Ki)(ad:∀{n:Nat}{prog:List (Bh (n+1))}{room:Int}{s:Sy}(nm:ByteArray)(k:Nat)(x:Tm k),R s->R (s.start n prog room nm k x).1)(n:Nat)(l:List (Bh (n+1)))(v:Option Addr)(y:Nat)(room:Int)(G:Nat)(q:List (Sk G))(sa:Option Addr)(sc:Nat)(w W:World)(ae:gM (n+1) w.heap.size w v l)(af:l.length<=y)(al:y<=maxLen)(aa:jP (n+1) l=true->(av (n+6) (bW n l)).length<=2097152)(am:pr w.heap.size w 5 (NT G) (G9 G w.heap.size w) sa q)(an:∀c∈q,(av (G+1) c.2).length<=2097152)(ay:q.length<=1048576)(C:ai w W):ak 6 #[.slice v l.length y,ab room,.slice sa q.length sc] W λe w'=>(e=.returned (.pointer none)/\Hid (ai w w'))\/∃g,e=.returned (.pointer (some ⟨g,0,none⟩))/\Hid (EI R w room (4+0) g w'):=by
 obtain⟨i,P⟩:=IB q (⟨#[]⟩,((0,0,⟨#[]⟩),(none,0),[]));have aj:(maxLen:Nat)=9223372036854775807:=rfl;have M:=C.size;have u:∀{W:World}{j o:Nat}{f:Value},ai w W->j<w.heap.size->w.cell? ⟨j,o,none⟩=some f->W.cell? ⟨j,o,none⟩=some f:=λ{W j o f} d m r=>(d.cell (p:=⟨j,o,none⟩) m).trans r;refine(BZ v l.length y room sa q.length sc (λa=>(i a).1) (λa=>(i a).2.1.2.2) (λa=>(i a).2.1.1) (λa=>(i a).2.1.2.1) (λa=>(i a).2.2.1.1) (λa=>(i a).2.2.2.length) (λa=>(i a).2.2.1.2) W (λf H h=>Mz n l room W f H h) (λg a h=>q.length<=4/\EI R w room a g h) (λf h=>(f=.pointer none/\ai w h)\/∃g,f=.pointer (some ⟨g,0,none⟩)/\EI R w room (4+0) g h) (by omega) (Bi n l v y room W ?_ af al aa) (λf H h B az=>?_) (λf h B A=>?_) (λg a h Q J=>?_) λg h J=>?_).mono ?_
 ·have V:=cu (dJ (n+1)) 2 (oR (n+1)) v;exact V.2.2.2.1 _ _ _ _ M (ae.below C)
 ·exact ag ⟨rfl,C.trans (B.2.1.mono M)⟩
 ·obtain⟨p,z,rfl,S,⟨ap,T,aq,aA⟩,ar,aB,aC,aD⟩:=B.2.2.2 rfl;exact⟨p.b,rfl,A,p,Ki,z,rfl,S,⟨(λ_ r=>(by cases r)),Z⟩,ar,⟨by omega,by rw[T];exact aF _,by omega,by omega⟩,C.trans (B.2.1.mono M),by omega⟩
 ·obtain⟨A,p,s,z,rfl,E,F,N,ao,d,D⟩:=J;obtain⟨j,o,Y,m,t,O⟩:=IH am (P a Q);refine⟨j,o,⟨Y,u d m (t 0 _ rfl),u d m (t 1 _ rfl),u d m (t 2 _ rfl),u d m (t 3 _ rfl),u d m (t 4 _ rfl)⟩,λaw K=>?_⟩;have L:=d.trans (K.mono d.size);refine((E.later K).start (i a).1 (ax O.1 (dm aj)) (i a).2 ((O.2.below L).mono L.size) (an _ (aG (P a Q))) (by omega) (by omega)).mono ?_;rintro e w' ⟨f,H,rfl,I⟩;obtain⟨_,X,au,U⟩:=I.out;exact⟨f,H,rfl,A,p,_,X,rfl,au,⟨F.1.start _ _ _,ad _ _ _ F.2⟩,N,by obtain⟨_,_,S,ap,T,aq⟩:=U;omega,L.trans (qU (E.later K) U D),D⟩
 ·obtain⟨A,p,s,z,rfl,E,F,N,ao,d,D⟩:=J;exact ah ⟨_,rfl,p,s,z,rfl,E,F,N,by omega,d,D⟩
 ·rintro e w' ⟨f,rfl,I⟩;rcases I.out with⟨rfl,d⟩|⟨g,rfl,r⟩
  ·exact ag ⟨rfl,d⟩
  ·exact ah ⟨g,rfl,r⟩
theorem DW:(l:List (Int×Int×Int×Tc))->∀{s:Sy},Cb s l=true->∀{j:Nat}{e:Int×Int×Int×Tc},l[j]?=some e->(Ib (xO s (l.take j)) e).2=0
 | [],_,_,_,_,h=>by simp at h
 | a::l,s,h,0,e,he=>by
  obtain rfl:a=e:=by simpa using he
  simp only[Cb,aB,bV]at h;exact h.1
 | a::l,s,h,j+1,e,he=>by
  simp only[Cb,aB]at h;exact DW l h.2 (by simpa using he)
theorem Ic(s:Sy){l:List (Int×Int×Int×Tc)}{j:Nat}{e:Int×Int×Int×Tc}(a:l[j]?=some e):xO s (l.take (j+1))=(Ib (xO s (l.take j)) e).1:=by
 rw[dx,a];simp[xO]
theorem Bt{w0:World}{V:Nat->Prop}{a:World}{s:Sy}{i h:Nat}{W:World}(v:BN w0 V a s i h W)(l:List (Int×Int×Int×Tc))(C:Cb s l=true)(N:i+l.length<=100)(g c:Nat)(t:V g)(k:Nat->Nat)(x:(j:Nat)->Tm (k j+1))(E:∀j e,l[j]?=some e->(In a.heap.size a (k j+1) (x j)/\bZ V (k j+1) (x j))/\(av (k j+1) (x j)).length<=2097152/\(aw (k j+1) (x j) 13 e.2.2.2=true\/e.1≠3)/\I2 (e.2.1,e.2.2.1))(B:∀j e,l[j]?=some e->a.cell? ⟨g,j*7,none⟩=some (ab e.1)/\a.cell? ⟨g,j*7+1,none⟩=some (ab e.2.1)/\a.cell? ⟨g,j*7+2,none⟩=some (ab e.2.2.1)/\a.cell? ⟨g,j*7+3,none⟩=some (ab (x j).1.1)/\a.cell? ⟨g,j*7+4,none⟩=some (ab (x j).1.2.1)/\a.cell? ⟨g,j*7+5,none⟩=some (ae (x j).1.2.2)/\a.cell? ⟨g,j*7+6,none⟩=some (.slice (x j).2.1.1 (x j).2.2.length (x j).2.1.2)):ak 20 #[.pointer (some ⟨h,0,none⟩),.slice (some ⟨g,0,none⟩) l.length c] W λe w'=>e=.returned (.bool true)/\Hid (BN w0 V a (xO s l) (i+l.length) h w'):=by
 obtain⟨f,z⟩:∃f:Nat->Int×Int×Int×Tc,∀j,j<l.length->l[j]?=some (f j):=⟨λj=>l.getD j (0,0,0,sJ),λj p=>by
  simp only[mf,aE p]
  rfl⟩
 have D:xO s (l.take l.length)=xO s l:=by rw[List.take_length]
 have:=GH h g l.length c (λj=>(f j).1) (λj=>(f j).2.1) (λj=>(f j).2.2.1) (λj=>(x j).1.1) (λj=>(x j).1.2.1) (λj=>(x j).1.2.2) (λj=>(x j).2.1.1) (λj=>(x j).2.2.length) (λj=>(x j).2.1.2) W (λj n=>BN w0 V a (xO s (l.take j)) (i+j) h n) (by omega) v (λj n p r=>?_)
 ·rw[<-D];exact this
 ·have m:=z j p;obtain⟨G,H,I,J⟩:=E j _ m;have b:=B j _ m;have d:∀{o:Nat}{q:Value},a.cell? ⟨g,o,none⟩=some q->n.cell? ⟨g,o,none⟩=some q:=λ{o q} F=>by
   obtain⟨O,M,_,_,_,_,_,w,y⟩:=r;rw[y.cell o (w g t).1 λK=>K t];exact F
  refine⟨⟨d b.1,d b.2.1,d b.2.2.1,d b.2.2.2.1,d b.2.2.2.2.1,d b.2.2.2.2.2.1,d b.2.2.2.2.2.2⟩,λL A=>?_⟩;refine(LG (r.later A) (by omega) (f j) J (x j) G H I).mono ?_;rintro e w' ⟨rfl,u⟩;rw[DW l C m];refine⟨rfl,?_⟩;rw[Ic s m];exact u.out
theorem NV(a:Nat)(W:World):(binOp .eql 26 (.pointer (some ⟨a,0,none⟩)) (.pointer none)).run Tryz.prog W=.ok (.bool false) W:=by kernel_rfl
def G3(r:Nat)(W:World):Prop:=W.heap[r]?=some (.cells #[ab 1,ab 1,ab 0,ab 0,ab 0,ae ⟨#[]⟩,.slice none 0 0] 32)
theorem ou{r:Nat}{w W:World}(b:G3 r w)(c:ai w W):W.cell? ⟨r,0,none⟩=some (Value.int .i64 1)/\W.cell? ⟨r,1,none⟩=some (Value.int .i64 1)/\W.cell? ⟨r,2,none⟩=some (Value.int .i64 0)/\W.cell? ⟨r,3,none⟩=some (Value.int .i64 0)/\W.cell? ⟨r,4,none⟩=some (Value.int .i64 0)/\W.cell? ⟨r,5,none⟩=some (Value.string ⟨#[]⟩)/\W.cell? ⟨r,6,none⟩=some (Value.slice none 0 0):=by
 have a:W.heap[r]?=some (.cells #[ab 1,ab 1,ab 0,ab 0,ab 0,ae ⟨#[]⟩,.slice none 0 0] 32):=(c.block r (aC.1 b).1).trans b;exact⟨af a 0,af a 1,af a 2,af a 3,af a 4,af a 5,af a 6⟩
theorem Gm(w:World)(M:Option Addr->Nat->Nat->World->Prop)(aH aI:Nat->World->Prop)(L:Nat->Nat->World->Prop)(aJ:Nat->World->Prop)(aK:Option Addr->Nat->World->Prop)(aM aN aO:Nat->Int->Int->ByteArray->Option Addr->Nat->Nat->World->Prop)(aq:Hid (ak 18 #[] w λe w'=>∃a l c,e=.returned (.slice a l c)/\Hid (M a l c w')))(ar:Hid (∀a l c W,M a l c W->ak 17 #[.slice a l c,ab 60] W λe w'=>∃b,e=.returned (.tuple #[.pointer (some ⟨b,0,none⟩),ab 0])/\Hid (aH b w')))(A:Hid (∀b W,aH b W->ak 19 #[.pointer (some ⟨b,0,none⟩),ae ⟨#[99,111,117,110,116]⟩,.agg #[ab 1,ab 2,ae ⟨#[]⟩,.slice none 0 0]] W λe w'=>e=.returned (.tuple #[ab 1,ab 0])/\Hid (aI b w')))(aD:Hid (∀W,ak 21 #[ab 1,ae ⟨#[40,117,112,32,51,41]⟩] W λe w'=>∃y0 y1 y2 ya yl yc,e=.returned (.agg #[ab 3,ab 1,ab 0,ab y0,ab y1,ae y2,.slice ya yl yc])/\Hid (aM W.heap.size y0 y1 y2 ya yl yc w'/\ai W w')))(aE:Hid (∀W,ak 21 #[ab 1,ae ⟨#[102,111,114,107]⟩] W λe w'=>∃y0 y1 y2 ya yl yc,e=.returned (.agg #[ab 3,ab 1,ab 0,ab y0,ab y1,ae y2,.slice ya yl yc])/\Hid (aN W.heap.size y0 y1 y2 ya yl yc w'/\ai W w')))(aF:Hid (∀W,ak 21 #[ab 1,ae ⟨#[98,97,100]⟩] W λe w'=>∃y0 y1 y2 ya yl yc,e=.returned (.agg #[ab 3,ab 1,ab 0,ab y0,ab y1,ae y2,.slice ya yl yc])/\Hid (aO W.heap.size y0 y1 y2 ya yl yc w'/\ai W w')))(ay:Hid (∀b r g ag B2 p h s R y0 y1 y2 ya yl yc V X Y Z ad aa,aI b p->(ai p h/\p.heap.size=r/\G3 r h)->(r<ag/\r<B2)->aM ag y0 y1 y2 ya yl yc h->ai h s->aN B2 V X Y Z ad aa s->ai s R->(s.heap.size<=g/\R.heap[g]?=some (.cells #[ab 3,ab 1,ab 0,ab y0,ab y1,ae y2,.slice ya yl yc,ab 1,ab 1,ab 0,ab 0,ab 0,ae ⟨#[]⟩,.slice none 0 0,ab 3,ab 1,ab 0,ab V,ab X,ae Y,.slice Z ad aa,ab 1,ab 1,ab 0,ab 0,ab 0,ae ⟨#[]⟩,.slice none 0 0,ab 2,ab 1,ab 2,ab 0,ab 0,ae ⟨#[]⟩,.slice none 0 0,ab 1,ab 2,ab 0,ab 0,ab 0,ae ⟨#[]⟩,.slice none 0 0] 32))->ak 20 #[.pointer (some ⟨b,0,none⟩),.slice (some ⟨g,0,none⟩) 6 6] R λe w'=>e=.returned (.bool true)/\Hid (L b r w'/\G3 r w')))(av:Hid (∀b r W,L b r W->ak 7 #[.pointer (some ⟨b,0,none⟩),ab 2] W λe w'=>∃nm U sa sl sc ma aU aT,e=.returned (.tuple #[ae nm,.agg #[ab 1,ab 7,ae U,.slice sa sl sc],.slice ma aU aT,ab 0])/\ai W w'))(O:Hid (∀b r W o,L b r W->ai W o->ak 12 #[.pointer (some ⟨b,0,none⟩)] o λe w'=>∃a c,e=.returned (.slice a 2 c)/\Hid (aK a c w'/\ai o w')))(Q:Hid (∀a c g W o,aK a c W->ai W o->o.heap[g]?=some (.cells #[ab 1,ab 2] 3)->ak 22 #[.slice a 2 c,.slice (some ⟨g,0,none⟩) 2 2] o λe w'=>e=.returned (.bool true)/\ai o w'))(aA:Hid (∀b r q g B p h s y0 y1 y2 ya yl yc,L b r p->(ai p h/\p.heap.size<=q/\h.cell? ⟨q,1,none⟩=some (ab 7))->p.heap.size<=B->aO B y0 y1 y2 ya yl yc h->G3 r h->ai h s->(h.heap.size<=g/\s.heap[g]?=some (.cells #[ab 3,ab 1,ab 0,ab y0,ab y1,ae y2,.slice ya yl yc,ab 1,ab 1,ab 0,ab 0,ab 0,ae ⟨#[]⟩,.slice none 0 0] 32))->ak 20 #[.pointer (some ⟨b,0,none⟩),.slice (some ⟨g,0,none⟩) 2 2] s λe w'=>e=.returned (.bool true)/\Hid (aJ b w'/\G3 r w'/\w'.cell? ⟨q,1,none⟩=some (ab 7))))(aG:Hid (∀b W,aJ b W->ak 12 #[.pointer (some ⟨b,0,none⟩)] W λe w'=>∃a c,e=.returned (.slice a 0 c)/\ai w w')):ak 5 #[] w λe w'=>e=.returned (.bool true)/\ai w w':=by
 go_enter Tryz.func5,Tryz.ntmps5;go_wp2_with fail;refine aq.out.mono ?_;rintro e ba ⟨a,l,c,rfl,ah⟩;have au:=ao (ar.out _ _ _ _ ah.out);clear aq ar ah;go_wp2_with fail;refine au.out.mono ?_;rintro e bd ⟨b,rfl,al⟩;have aB:=ao (A.out _ _ al.out);have a9:=NV b;clear au A al;go_wp2_with fail;refine aB.out.mono ?_;rintro e t ⟨rfl,an⟩;clear aB;go_upto_region 6 with fail;generalize aS:t.alloc _=C;have x:Hid (ai t C/\t.heap.size=t.heap.size/\G3 t.heap.size C):=by
  rw[<-aS];exact⟨(am _ _).alloc (aj _) _,rfl,az _ _⟩
 clear aS;have y:Hid (∀W,ai C W->ai t W/\G3 t.heap.size W):=λW i=>⟨x.out.1.trans (i.mono x.out.1.size),(i.block _ (aC.1 x.out.2.2).1).trans x.out.2.2⟩;generalize S:t.heap.size=r at*;have d:=ao (λW (i:ai C W)=>ou x.out.2.2 i);have E:Hid (ai C C.drew):=(am _ _).drew
 go_region_held3 (λW=>W.cell? ⟨r,0,none⟩=some (Value.int .i64 1)/\W.cell? ⟨r,1,none⟩=some (Value.int .i64 1)/\W.cell? ⟨r,2,none⟩=some (Value.int .i64 0)/\W.cell? ⟨r,3,none⟩=some (Value.int .i64 0)/\W.cell? ⟨r,4,none⟩=some (Value.int .i64 0)/\W.cell? ⟨r,5,none⟩=some (Value.string ⟨#[]⟩)/\W.cell? ⟨r,6,none⟩=some (Value.slice none 0 0)) (first|exact d.out _ E.out|exact d.out _ m.out|exact d.out _ I.out|exact d.out _ (I.out.alloc I.out.size _)|exact ou n.out.2 (am _ _)) ((first
  | (go_at_call 21;first
      | (refine(aD.out _).mono ?_;rintro e a5 ⟨y0,y1,y2,ya,yl,yc,rfl,P⟩;have m:=ao (E.out.trans (P.out.2.mono E.out.size));clear aD)
      | (refine(aE.out _).mono ?_;rintro e a6 ⟨V,X,Y,Z,ad,aa,rfl,J⟩;have I:=ao (m.out.trans (J.out.2.mono m.out.size));clear aE))
  | (go_at_call 20;refine(ay.out _ _ _ _ _ _ a5 a6 _ _ _ _ _ _ _ _ _ _ _ _ _ an.out ⟨by first|(rw[S];exact(y.out _ m.out).1)|exact(y.out _ m.out).1,S,(y.out _ m.out).2⟩ ⟨(aC.1 (y.out _ E.out).2).1,(aC.1 (y.out _ m.out).2).1⟩ P.out.1 J.out.2 J.out.1 ((am _ _).alloc (aj _) _) ⟨aj _,az _ _⟩).mono ?_;rintro e aV ⟨rfl,n⟩)))
 have aw:=ao (av.out _ _ _ n.out.1);clear ay av x y d E an m I P J S;go_upto_region 8 with fail;go_wp2_with fail;refine aw.out.mono ?_;rintro e H ⟨nm,U,sa,sl,sc,ma,aU,aT,rfl,aR⟩;have K:=ao aR;clear aw aR;go_upto_region 9 with fail;generalize T:H.alloc _=j;have f:Hid (ai aV j/\aV.heap.size<=H.heap.size/\∀W,ai j W->W.cell? ⟨H.heap.size,1,none⟩=some (ab 7)):=by
  have aP:j.heap[H.heap.size]?=some (.cells #[ab 1,ab 7,ae U,.slice sa sl sc] 30):=by
   rw[<-T];exact az _ _
  refine⟨K.out.trans (by rw[<-T];exact(am _ _).alloc K.out.size _),K.out.size,λW i=>?_⟩;have a1:=(i.block _ (aC.1 aP).1).trans aP;exact af a1 1
 generalize H.heap.size=q at*;clear T K;have A:Hid (∀W,ai j W->G3 r W):=λW i=>(i.block _ (aL (aC.1 n.out.2).1 f.out.1.size)).trans ((f.out.1.block _ (aC.1 n.out.2).1).trans n.out.2);have d:Hid (∀W,ai j W->(W.cell? ⟨r,0,none⟩=some (Value.int .i64 1)/\W.cell? ⟨r,1,none⟩=some (Value.int .i64 1)/\W.cell? ⟨r,2,none⟩=some (Value.int .i64 0)/\W.cell? ⟨r,3,none⟩=some (Value.int .i64 0)/\W.cell? ⟨r,4,none⟩=some (Value.int .i64 0)/\W.cell? ⟨r,5,none⟩=some (Value.string ⟨#[]⟩)/\W.cell? ⟨r,6,none⟩=some (Value.slice none 0 0))/\W.cell? ⟨q,1,none⟩=some (ab 7)):=λW i=>⟨ou (A.out W i) (am _ _),f.out.2.2 W i⟩;have F:Hid (ai j j.drew):=(am _ _).drew;have z:Hid (ai j (j.alloc (.cells #[ab 1,ab 2] 3)).drew/\(j.alloc (.cells #[ab 1,ab 2] 3)).drew.heap[j.heap.size]?=some (.cells #[ab 1,ab 2] 3)):=⟨((am _ _).alloc (aj _) _).drew,az _ _⟩
 go_region_held3 (λW=>(W.cell? ⟨r,0,none⟩=some (Value.int .i64 1)/\W.cell? ⟨r,1,none⟩=some (Value.int .i64 1)/\W.cell? ⟨r,2,none⟩=some (Value.int .i64 0)/\W.cell? ⟨r,3,none⟩=some (Value.int .i64 0)/\W.cell? ⟨r,4,none⟩=some (Value.int .i64 0)/\W.cell? ⟨r,5,none⟩=some (Value.string ⟨#[]⟩)/\W.cell? ⟨r,6,none⟩=some (Value.slice none 0 0))/\W.cell? ⟨q,1,none⟩=some (ab 7)) (first|exact d.out _ F.out|exact d.out _ z.out.1|exact d.out _ k.out|exact d.out _ (k.out.alloc k.out.size _)|exact d.out _ D.out|exact d.out _ v.out|exact d.out _ (v.out.alloc v.out.size _)|exact⟨ou N.out.2.1 (am _ _),N.out.2.2⟩) ((first
  | (go_at_call 12;first
      | (refine(O.out _ _ _ _ n.out.1 (f.out.1.trans (F.out.mono f.out.1.size))).mono ?_;rintro e a2 ⟨aZ,a0,rfl,u⟩;have k:=ao (F.out.trans (u.out.2.mono F.out.size)))
      | (refine(O.out _ _ _ _ n.out.1 (f.out.1.trans (z.out.1.mono f.out.1.size))).mono ?_;rintro e a2 ⟨aZ,a0,rfl,u⟩;have k:=ao (z.out.1.trans (u.out.2.mono z.out.1.size));have aX:=ao ((u.out.2.block _ (aC.1 z.out.2).1).trans z.out.2)))
  | (go_at_call 22;first
      | (refine(Q.out _ _ _ _ _ u.out.1 (am _ _) aX.out).mono ?_;rintro e a3 ⟨rfl,G⟩;have D:=ao (k.out.trans (G.mono k.out.size));clear G)
      | (refine(Q.out _ _ _ _ _ u.out.1 ((am _ _).alloc (aj _) _) (az _ _)).mono ?_;rintro e a3 ⟨rfl,G⟩;have D:=ao ((k.out.alloc k.out.size _).trans (G.mono (k.out.alloc k.out.size _).size));clear G))
  | (go_at_call 21;refine(aF.out _).mono ?_;rintro e a4 ⟨y0,y1,y2,ya,yl,yc,rfl,ap⟩;have v:=ao (D.out.trans (ap.out.2.mono D.out.size)))
  | (go_at_call 20;refine(aA.out _ _ q _ _ _ a4 _ _ _ _ _ _ _ n.out.1 ⟨f.out.1.trans (v.out.mono f.out.1.size),f.out.2.1,f.out.2.2 _ v.out⟩ (ax f.out.1.size D.out.size) ap.out.1 (A.out _ v.out) ((am _ _).alloc (aj _) _) ⟨aj _,az _ _⟩).mono ?_;rintro e bb ⟨rfl,N⟩)))
 all_goals
  have aY:=ao (aG.out _ _ N.out.1);clear O Q aA aG aF A d F f;go_upto_region 11 with fail;go_wp2_with fail;refine aY.out.mono ?_;rintro e bc ⟨a7,a8,rfl,aQ⟩;have aW:=ao aQ;clear aQ;go_wp2_with fail
  go_ret
  exact⟨rfl,aW.out⟩
end Go.Proofs.YtckamaoibonjcaaGreat
