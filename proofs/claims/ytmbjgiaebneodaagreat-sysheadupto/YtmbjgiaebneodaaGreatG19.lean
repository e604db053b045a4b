/- What is proved here: plain facts and contracts that the claimed theorem stands on. No condition but those that each names. -/
import Derived.Test.YtmbjgiaebneodaaGreatG18
namespace Go.Proofs.YtmbjgiaebneodaaGreat
open Go.RowKit Go.Maps
open Go.RowKit
set_option maxHeartbeats 2000000
set_option maxRecDepth 100000
theorem fE.mem{ws:List Wd}{nm:List ByteArray}{n:Nat}{l:List Wd}{p:List (Tm n)}(b:fE ws nm n l p){v:Wd}(e:v∈l):∃y∈p,dw ws nm n y v:=by
 obtain⟨a,c⟩:=cF e;have d:a<p.length:=by rw[<-b.1];exact(aK.1 c).1
 exact⟨p[a],iG _,b.2 a v p[a] c (az d)⟩
def Lt(g c:cH)(a b:Nat):Prop:=∀p,(p<a\/b<=p)->look c p=look g p
theorem DL{d a C:List Wd}{b:Wd}(k:(a++b::C) <+:d):bR d a.length C.length=C:=by
 obtain⟨c,rfl⟩:=k;unfold bR;rw[show a++b::C++c=(a++ [b])++(C++c) by simp];rw[List.drop_left' (by simp),List.take_left' rfl]
theorem zQ{w w1:World}{vs:List Wd}{a:Option Addr}(c:eq w vs a)(d:Below w.heap.size w w1):eq w1 vs a:=by
 rcases c with c|⟨b,o,i,e,c⟩
 ·exact ae c
 ·exact af ⟨b,o,i,aM e d.size,λg h f=>⟨(aj d b _ e).trans (c g h f).1,(aj d b _ e).trans (c g h f).2⟩⟩
def BN(ws:List Wd)(nm:List ByteArray)(n:Nat)(vs:List Wd)(p:List (Tm n)):Prop:=
 fE ws nm n vs p/\(∀a∈p,aA ⟨n,a⟩)/\(∀a∈p,aF n a=true)/\(p.map λa=>1+sz n a).sum<=90000/\(p.flatMap λa=>ap n a).length<=90000/\vs.length<=1000
def iU(ws:List Wd)(n:Nat)(vs:List Wd):List Wd×List Wd×cH:=fL (iR ws n) vs ([],[])
theorem BN.all{ws:List Wd}{nm:List ByteArray}{n:Nat}{vs:List Wd}{p:List (Tm n)}(b:BN ws nm n vs p)(g:ws.length<=1000)(f:nm.length<=50000):vs.all (co ws nm)=true/\∀v∈vs,cY v.2:=by
 have key:∀v∈vs,co ws nm v=true/\cY v.2:=λv a=>by
  obtain⟨d,c,e⟩:=b.1.mem a;exact zD e (b.2.1 d c) (b.2.2.1 d c) (by omega) (by omega)
 exact⟨bT.2 λv a=>(key v a).1,λv a=>(key v a).2⟩
def vw(base:Nat)(a:bX)(room:Int)(R:List Wd×List Wd×cH)(nm:List ByteArray)(M:Nat->Prop)(g:Nat)(w w':World):Prop:=
 du base a room R.2.1 nm (λb=>(M b\/w.heap.size<=b)/\b≠g) w'/\bC M w w'/\eq w' R.1 (some ⟨g,0,none⟩)/\w.heap.size<=g/\g<w'.heap.size/\∃len,w'.ownsRow g 119 2 (.slice (some ⟨g,0,none⟩) len len) len (aP R.1)
theorem vu{w:World}{g base len:Nat}{vs:List Wd}(a:w.ownsRow base 119 2 (.slice (some ⟨g,0,none⟩) len len) len (aP vs)):eq w vs (some ⟨g,0,none⟩)/\g<w.heap.size:=by
 refine⟨af ⟨g,0,rfl,(a.lt g rfl).2,λc d b=>?_⟩,(a.lt g rfl).2⟩;have:=gX a c d b;rw[cQ];exact this
theorem E9{base:Nat}{d:bX}{room:Int}{ws:List Wd}{nm:List ByteArray}{M:Nat->Prop}{R:List Wd×List Wd×cH}{len g:Nat}{tv:Value}{w w1 w2:World}(j:du base d room ws nm M w)(h:Below w.heap.size w w1)(p:jJ R len g tv w1 w2)(t:base<=w.heap.size):vw base d room R nm M g w (w2.setCell ⟨d.b,d.o+1,none⟩ tv):=by
 have u:=xP j h p t;obtain⟨z,q,i,F,B⟩:=p;have v:=h.size;have s:=h.trans (z.mono v);obtain⟨G,x,y,e,C,f,l,D,m,n⟩:=j.later s;have k:=aX w2 d.b (d.o+1) tv;have r:∀b,tv.ownBlock=some b->w1.heap.size<=b:=λb a=>(q.lt b a).1;have E:d.b<w.heap.size:=l.2;refine⟨⟨tv,x,y,e.set1 tv,dH (pL q (by omega)) k (λb a c=>?_),f.kept k (λb a c=>?_) (λb a c=>?_),⟨ae l.1,by omega⟩,λb a=>⟨af (by have:=r b a;omega),λc=>B (by rw[a,c])⟩,λb a=>⟨ae (m b a).1,by have:=(m b a).2;omega⟩,λb a=>⟨ae (n b a).1,by have:=(n b a).2;omega⟩⟩,u.2,?_,by omega,?_,?_⟩
 ·subst c;have:=r _ a;omega
 ·subst c;exact lO f.1 e (by decide) a
 ·subst c;exact rR f e a
 ·have A:=dH i k (λb a c=>by
    subst c;simp only[Value.ownBlock]at a;have:=aq a
    omega)
  exact(vu A).1
 ·have:=(vu i).2;simpa [World.setCell]using this
 ·exact⟨len,dH i k (λb a c=>by
    subst c;simp only[Value.ownBlock]at a;have:=aq a
    omega)⟩
theorem vU(n:Nat)(p:List (Tm n))(vs:List Wd)(a:Option Addr)(pc base:Nat)(f:bX)(room:Int)(ws:List Wd)(nm:List ByteArray)(M:Nat->Prop)(w:World)(j:du base f room ws nm M w)(d:BN ws nm n vs p)(r:eq w vs a)(C:∀b o,a=some ⟨b,o,none⟩->b<w.heap.size)(z:base<=w.heap.size)(E:ws.length<=1000)(D:nm.length<=50000):Calls Tryz.prog 128 #[.pointer (some ⟨f.b,f.o,none⟩),.slice a vs.length pc] w λe w'=>∃g,e=.returned (.tuple #[.slice (some ⟨g,0,none⟩) vs.length vs.length,.int .i64 0])/\Hid (vw base f room (iU ws n vs) nm M g w w'):=by
 obtain⟨y,B⟩:=d.all E D;obtain⟨t,P,Q,m,q,J,K,L,N,O⟩:=id j;obtain⟨⟨F,v,G,H⟩,A⟩:=m.cells;obtain⟨h,i,rfl⟩:∃h i,t=.slice h ws.length i:=by
  rcases q.2 with⟨e,x⟩|⟨g,c,I,e,_⟩
  ·exact⟨none,0,by rw[e,x]⟩
  ·exact⟨_,c,e⟩
 refine(vL (iU ws n vs) f h ws.length i a vs.length pc w m.lt v (A _) ?_ ?_).mono ?_
 ·have s:=vC base f room ws nm M vs a vs.length pc w j (by omega) rfl (by have:=d.2.2.2.2.2;omega) r B;rw[y]at s;exact s
 ·intro u k;refine ze ws nm n vs p base (.slice h ws.length i) a pc u (dC q k) d.1 d.2.1 (by omega) (by have:=d.2.2.2.2.2;omega) d.2.2.2.1 d.2.2.2.2.1 (zQ r k) ?_;intro b o e;exact aM (C b o e) k.size
 ·rintro e w' ⟨g,t,u,R,rfl,rfl,l⟩;exact⟨g,rfl,E9 j l.out.1 l.out.2 z⟩
def nw(ws:List Wd):Nat->Wd->List Nat
 | 0,_=> []
 | n+1,v=>if v.1=4 then
    match ws[v.2.toNat]? with
    | some a=>v.2.toNat::(bR ws v.2.toNat a.2.toNat).flatMap (nw ws n)
    | none=> []
  else []
theorem kT{ws:List Wd}{n:Nat}{v:Wd}(a:v.1≠4):nw ws n v=[]:=by
 cases n with
 | zero=>rfl
 | succ n=>simp[nw,a]
theorem pO{ws:List Wd}{n p m:Nat}(a:ws[p]?=some (0,(m:Int))):nw ws (n+1) (4,(p:Int))=p::(bR ws p m).flatMap (nw ws n):=by
 simp[nw,a]
theorem uR{nm:List ByteArray}{s:ByteArray}(a:s∈nm):eh nm s=nm:=by
 unfold eh;rw[if_pos ((wg nm s).2 a)]
theorem xQ{ws:List Wd}{nm:List ByteArray}{n:Nat}(ih:∀(x:Tm n)(v:Wd)(S:List Wd×cH),dw ws nm n x v->(nw ws n v).Nodup->(∀p∈nw ws n v,look S.2 p=none)->((iR ws n v S).1=(aN n x S.1 nm).1/\(iR ws n v S).2.1=(aN n x S.1 nm).2.1/\(aN n x S.1 nm).2.2=nm)/\∀p,look (iR ws n v S).2.2 p=none ↔ look S.2 p=none/\p∉nw ws n v):(us:List Wd)->(ys:List (Tm n))->fE ws nm n us ys->(S:List Wd×cH)->(us.flatMap (nw ws n)).Nodup->(∀p∈us.flatMap (nw ws n),look S.2 p=none)-> ((fL (iR ws n) us S).1=(bw (aN n) ys S.1 nm).1/\(fL (iR ws n) us S).2.1=(bw (aN n) ys S.1 nm).2.1/\(bw (aN n) ys S.1 nm).2.2=nm)/\∀p,look (fL (iR ws n) us S).2.2 p=none ↔ look S.2 p=none/\p∉us.flatMap (nw ws n)
 | us,ys,a,S,hn,hl=>by
  induction us generalizing ys S with
  | nil=>
   obtain rfl:ys=[]:=by have:=a.1;cases ys with|nil=>rfl|cons e l=>simp at this
   simp[fL,bw]
  | cons v us z=>
   cases ys with
   | nil=>have:=a.1;simp at this
   | cons d ys=>
    have r:dw ws nm n d v:=a.2 0 v d (by simp) (by simp);have w:fE ws nm n us ys:=⟨by have:=a.1;simpa using this,λy e b s t=>a.2 (y+1) e b (by simpa using s) (by simpa using t)⟩;rw[bj]at hn hl;obtain⟨A,B,C⟩:=eL.1 hn;obtain⟨⟨g,h,i⟩,f⟩:=ih d v S r A (λp c=>hl p (List.mem_append_left _ c));have u:∀p∈us.flatMap (nw ws n),look (iR ws n v S).2.2 p=none:=λp c=>(f p).2 ⟨hl p (List.mem_append_right _ c),λq=>C p q p c rfl⟩;obtain⟨⟨j,k,m⟩,o⟩:=z ys w (iR ws n v S).2 B u;simp only[fL,bw];rw[i,<-h];refine⟨⟨by rw[g,j],k,m⟩,λp=>?_⟩;rw[o p,f p,bj,dp,not_or,and_assoc]
theorem BY{ws:List Wd}{nm:List ByteArray}(g:nm.Nodup):(n:Nat)->(x:Tm n)->(v:Wd)->(S:List Wd×cH)->dw ws nm n x v->(nw ws n v).Nodup->(∀p∈nw ws n v,look S.2 p=none)-> ((iR ws n v S).1=(aN n x S.1 nm).1/\(iR ws n v S).2.1=(aN n x S.1 nm).2.1/\(aN n x S.1 nm).2.2=nm)/\∀p,look (iR ws n v S).2.2 p=none ↔ look S.2 p=none/\p∉nw ws n v
 | 0,_,_,_,h,_,_=>h.elim
 | n+1,x,v,S,h,hn,hl=>by
  by_cases b:x.1.1=4
  ·obtain⟨p,rfl,i,u,s⟩:=iy h b;rw[pO i]at hn hl ⊢;have o:=hl p (by simp);rw[vO o i];have r:=lk.1 hn;obtain⟨⟨k,f,l⟩,m⟩:=xQ (λx v S=>BY g n x v S) (bR ws p x.2.2.length) x.2.2 s S r.2 (λq c=>hl q (bU _ c));have e:aN (n+1) x S.1 nm=((4,((bw (aN n) x.2.2 S.1 nm).2.1.length:Int)),(bw (aN n) x.2.2 S.1 nm).2.1++(0,(x.2.2.length:Int))::(bw (aN n) x.2.2 S.1 nm).1,(bw (aN n) x.2.2 S.1 nm).2.2):=by
    simp only[aN];rw[if_neg (by omega),if_pos b]
   rw[e];refine⟨⟨by rw[f],by rw[k,f],l⟩,λq=>?_⟩;by_cases c:q=p
   ·subst c;rw[qv];simp
   ·rw[oF _ _ c,m q];simp[c]
  ·have j:=gO h b;rw[sE j,kT j];refine⟨⟨?_,?_,?_⟩,λq=>by simp⟩
   ·simp only[aN];by_cases a:x.1.1=2
    ·rw[if_pos a];obtain⟨t,rfl,d⟩:=h.1 a;rw[uR (ax d),yG g d]
    ·rw[if_neg a,if_neg b];exact h.2.2 a b
   ·simp only[aN];split
    ·rfl
    ·rfl
   ·simp only[aN];split
    ·rename_i a;obtain⟨t,rfl,d⟩:=h.1 a;exact uR (ax d)
    ·rfl
theorem A2{ws a:List Wd}(b:ws <+:a){p m:Nat}(c:p+1+m<=ws.length):bR a p m=bR ws p m:=by
 obtain⟨t,rfl⟩:=b;unfold bR;rw[nF (by omega),gz (by rw[eC];omega)]
theorem IJ{ws b:List Wd}(c:ws <+:b){p:Nat}{v:Wd}(a:ws[p]?=some v):b[p]?=some v:=by
 obtain⟨t,rfl⟩:=c;rw[cV (aK.1 a).1];exact a
theorem lH{c e:Type}{f g:c->List e}:{l:List c}->(∀a∈l,f a=g a)->l.flatMap f=l.flatMap g
 | [],_=>rfl
 | a::l,h=>by rw[bj,bj,h a (by simp),lH (l:=l) λb d=>h b (by simp[d])]
theorem pN{ws d:List Wd}{nm:List ByteArray}(b:ws <+:d):(n:Nat)->(x:Tm n)->(v:Wd)->dw ws nm n x v->nw d n v=nw ws n v
 | 0,_,_,h=>h.elim
 | n+1,x,v,h=>by
  by_cases a:x.1.1=4
  ·obtain⟨p,rfl,c,e,f⟩:=iy h a;rw[pO c,pO (IJ b c),A2 b e];congr 1;refine lH λu g=>?_;obtain⟨y,_,i⟩:=f.mem g;exact pN b n y u i
  ·rw[kT (gO h a),kT (gO h a)]
theorem wk{ws:List Wd}{nm:List ByteArray}:(n:Nat)->(x:Tm n)->(v:Wd)->dw ws nm n x v->∀p∈nw ws n v,p<ws.length
 | 0,_,_,h,_,_=>h.elim
 | n+1,x,v,h,q,a=>by
  by_cases b:x.1.1=4
  ·obtain⟨p,rfl,c,g,d⟩:=iy h b;rw[pO c,bF,iH]at a;rcases a with rfl|⟨u,e,a⟩
   ·omega
   ·obtain⟨y,_,f⟩:=d.mem e;exact wk n y u f q a
  ·rw[kT (gO h b)]at a;cases a
theorem sV{n:Nat}(ih:∀(x:Tm n)(ws:List Wd)(nm:List ByteArray),aA ⟨n,x⟩->(nw (aN n x ws nm).2.1 n (aN n x ws nm).1).Nodup/\∀p∈nw (aN n x ws nm).2.1 n (aN n x ws nm).1,ws.length<=p):(l:List (Tm n))->(ws:List Wd)->(nm:List ByteArray)->(∀y∈l,aA ⟨n,y⟩)->((bw (aN n) l ws nm).1.flatMap (nw (bw (aN n) l ws nm).2.1 n)).Nodup/\∀p∈(bw (aN n) l ws nm).1.flatMap (nw (bw (aN n) l ws nm).2.1 n),ws.length<=p
 | [],_,_,_=>by simp[bw]
 | y::l,ws,nm,hr=>by
  have f:=ih y ws nm (hr y (by simp));have g:=fN n y ws nm (hr y (by simp));have d:=sV ih l (aN n y ws nm).2.1 (aN n y ws nm).2.2 (λo m=>hr o (by simp[m]));have c:=(px (λx ws nm=>kN n x ws nm) l (aN n y ws nm).2.1 (aN n y ws nm).2.2).1;have k:=pN c n y _ g;have j:=wk n y _ g;have q:=(kN n y ws nm).1.length_le;simp only[bw,bj];rw[k];refine⟨eL.2 ⟨f.1,d.1,λa h b i e=>?_⟩,λp c=>?_⟩
  ·have:=j a h;have:=d.2 b i;omega
  ·rcases dp.1 c with c|c
   ·exact f.2 p c
   ·have:=d.2 p c;omega
theorem vV:(n:Nat)->(x:Tm n)->(ws:List Wd)->(nm:List ByteArray)->aA ⟨n,x⟩->(nw (aN n x ws nm).2.1 n (aN n x ws nm).1).Nodup/\∀p∈nw (aN n x ws nm).2.1 n (aN n x ws nm).1,ws.length<=p
 | 0,_,_,_,h=>(cU h).elim
 | n+1,x,ws,nm,h=>by
  by_cases q:x.1.1=4
  ·have e:aN (n+1) x ws nm=((4,((bw (aN n) x.2.2 ws nm).2.1.length:Int)),(bw (aN n) x.2.2 ws nm).2.1++(0,(x.2.2.length:Int))::(bw (aN n) x.2.2 ws nm).1,(bw (aN n) x.2.2 ws nm).2.2):=by
     simp only[aN];rw[if_neg (by omega),if_pos q]
   have r:∀o∈x.2.2,aA ⟨n,o⟩:=λo B=>aU n x o h B;have k:=sV (λx ws nm l=>vV n x ws nm l) x.2.2 ws nm r;have A:=(px (λx ws nm=>kN n x ws nm) x.2.2 ws nm).1.length_le;have s:=mG (λx ws nm l=>fN n x ws nm l) x.2.2 ws nm r;have v:=fO (aN n) x.2.2 ws nm;rw[e];generalize (bw (aN n) x.2.2 ws nm).2.1=c at*;generalize (bw (aN n) x.2.2 ws nm).1=d at*;generalize (bw (aN n) x.2.2 ws nm).2.2=D at*;have t:(c++(0,(x.2.2.length:Int))::d)[c.length]?=some (0,(x.2.2.length:Int)):=by simp
   have z:bR (c++(0,(x.2.2.length:Int))::d) c.length x.2.2.length=d:=by rw[<-v];exact DL (fD _)
   have y:d.flatMap (nw (c++(0,(x.2.2.length:Int))::d) n)=d.flatMap (nw c n):=lH λm j=>by
    obtain⟨i,f⟩:=cF j;have u:=(aK.1 f).1;obtain⟨C,b,g⟩:=s i (x.2.2[i]'(by omega)) (az _);rw[f]at b;injection b with b;subst b;exact pN (nI _ _) n _ m g
   have w:∀p∈d.flatMap (nw c n),p<c.length:=λp a=>by
    obtain⟨m,j,a⟩:=iH.1 a;obtain⟨i,f⟩:=cF j;have u:=(aK.1 f).1;obtain⟨C,b,g⟩:=s i (x.2.2[i]'(by omega)) (az _);rw[f]at b;injection b with b;subst b;exact wk n _ m g p a
   simp only;rw[pO t,z,y];refine⟨lk.2 ⟨λa=>by have:=w _ a;omega,k.1⟩,λp a=>?_⟩;rcases bF.1 a with rfl|a
   ·exact A
   ·exact k.2 p a
  ·have g:=fN (n+1) x ws nm h;rw[kT (gO g q)];simp
theorem yt(n:Nat):(l:List (Tm n))->(ws:List Wd)->(nm:List ByteArray)->((bw (aN n) l ws nm).2.1.length:Int)=ws.length+(l.map (sz n)).sum
 | [],_,_=>by simp[bw]
 | y::l,ws,nm=>by
  have a:=(gN n y ws nm).1;have b:=yt n l (aN n y ws nm).2.1 (aN n y ws nm).2.2;simp only[bw,aJ,br];omega
theorem Bb{ws:List Wd}{nm:List ByteArray}(d:nm.Nodup){n:Nat}{vs:List Wd}{p:List (Tm n)}(b:fE ws nm n vs p)(c:(vs.flatMap (nw ws n)).Nodup):(iU ws n vs).1=(bw (aN n) p [] nm).1/\(iU ws n vs).2.1=(bw (aN n) p [] nm).2.1/\(bw (aN n) p [] nm).2.2=nm:=
 (xQ (λf e a=>BY d n f e a) vs p b ([],[]) c (λ_ _=>rfl)).1
def iz:ByteArray:=⟨#[99,111,100,101]⟩
def mR:ByteArray:=⟨#[98,101,104]⟩
def BH:ByteArray:=⟨#[111,110]⟩
def iB:ByteArray:=⟨#[115,101,110,100]⟩
def iX:ByteArray:=⟨#[115,112,97,119,110]⟩
def lZ:ByteArray:=⟨#[108,105,110,107]⟩
def l9:ByteArray:=⟨#[115,116,111,112]⟩
def eu(n:Nat)(x:Tm n):Bool:=(ib n x).1.1==0 && (ib n x).1.2.1==0 && (ib n x).1.2.2.toList.isEmpty && ((ib n x).2.2.1:Int)==0
def th(s:ByteArray)(v:Int):Bool:=s.toList.isEmpty && v==0
def lE(n:Nat)(a:Ac n):Bool:=
 if a.1=1 then th a.2.2.1 a.2.2.2
 else if a.1=2 then eu n a.2.1.1 && ch a.2.2.1 && decide (0<=a.2.2.2) && decide (a.2.2.2<4)
 else if a.1=3 then eu n a.2.1.2 && th a.2.2.1 a.2.2.2
 else if a.1=4 then eu n a.2.1.1 && eu n a.2.1.2 && th a.2.2.1 a.2.2.2
 else false
def qS(n:Nat)(c:Cl n):Bool:=decide ((c.2.2.length:Int)<=8) && c.2.2.all (lE n)
def sj(n:Nat)(b:Bh n):Bool:=ch b.1 && decide (1<=(b.2.2.length:Int)) && decide ((b.2.2.length:Int)<=6) && b.2.2.all (qS n)
def jm(n:Nat)(l:List (Bh n)):Bool:=decide (1<=(l.length:Int)) && decide ((l.length:Int)<=7) && l.all (sj n)
def aQ(s:ByteArray)(N:Nat):Tm (N+1):=((2,0,s),(none,0),[])
def da(n:Nat)(a:Ac (n+1)):Tm (n+2):=
 if a.1=1 then cI (n+1) [aQ iB n,a.2.1.1,a.2.1.2]
 else if a.1=2 then cI (n+1) [aQ iX n,aQ a.2.2.1 n,a.2.1.2,aS 5 a.2.2.2 n]
 else if a.1=3 then cI (n+1) [aQ lZ n,a.2.1.1]
 else cI (n+1) [aQ l9 n]
def ey(n:Nat)(c:Cl (n+1)):Tm (n+4):=
 cI (n+3) [aQ BH (n+2),aH (n+3) (n+1) c.1.1,aH (n+3) (n+1) c.1.2.1,cI (n+2) (c.2.2.map (da n)),aH (n+3) (n+1) c.1.2.2]
def ei(n:Nat)(b:Bh (n+1)):Tm (n+5):=cI (n+4) (aQ mR (n+3)::aQ b.1 (n+3)::b.2.2.map (ey n))
def cO(n:Nat)(l:List (Bh (n+1))):Tm (n+6):=cI (n+5) (aQ iz (n+4)::l.map (ei n))
def dv{a b:Type}(R:a->b->Prop)(l:List a)(r:List b):Prop:=l.length=r.length/\∀(i:Nat)(x:a)(y:b),l[i]?=some x->r[i]?=some y->R x y
theorem dv.nil{b c:Type}{R:b->c->Prop}:dv R [] []:=⟨rfl,λi x y a=>by simp at a⟩
theorem dv.snoc{g h:Type}{R:g->h->Prop}{l:List g}{r:List h}(d:dv R l r){x:g}{y:h}(k:R x y):dv R (l++ [x]) (r++ [y]):=by
 refine⟨by simp[d.1],λf j b a c=>?_⟩;by_cases i:f<l.length
 ·rw[cV i]at a;rw[cV (by rw[<-d.1];exact i)]at c;exact d.2 f j b a c
 ·rw[dM (by omega)]at a;rw[dM (by rw[<-d.1];omega)]at c;have e:f-l.length=0:=by
   by_cases e:f-l.length=0
   ·exact e
   ·rw[eK (by simp;omega)]at a;cases a
  rw[<-d.1,e]at c;rw[e]at a;simp at a c;rw[<-a,<-c];exact k
theorem dv.tail{c d:Type}{R:c->d->Prop}{x:c}{y:d}{l:List c}{r:List d}(a:dv R (x::l) (y::r)):R x y/\dv R l r:=
 ⟨a.2 0 x y (by simp) (by simp),by simpa using a.1,λh e b f g=>a.2 (h+1) e b (by simpa using f) (by simpa using g)⟩
theorem dv.all{a b:Type}{R:a->b->Prop}(f:a->Bool)(g:b->Bool)(c:∀x y,R x y->f x=g y):(l:List a)->(r:List b)->dv R l r->l.all f=r.all g
 | [],[],_=>rfl
 | [],_::_,h=>by have:=h.1;simp at this
 | _::_,[],h=>by have:=h.1;simp at this
 | x::l,y::r,h=>by
  simp only[List.all_cons,c x y h.tail.1,dv.all f g c l r h.tail.2]
theorem dv.same{c d:Type}{R:c->d->Prop}{n m:Nat}(f:c->Tm n)(g:d->Tm m)(e:∀x y,R x y->aw n (f x) m (g y)=true):(l:List c)->(r:List d)->dv R l r->av (λa b=>aw n a m b) (l.map f) (r.map g)=true
 | [],[],_=>rfl
 | [],_::_,h=>by have:=h.1;simp at this
 | _::_,[],h=>by have:=h.1;simp at this
 | x::l,y::r,h=>by
  simp only[aJ,av,aB];exact⟨e x y h.tail.1,dv.same f g e l r h.tail.2⟩
def zZ(n:Nat)(a b:Ac n):Prop:=a.1=b.1/\aw n a.2.1.1 n b.2.1.1=true/\aw n a.2.1.2 n b.2.1.2=true/\a.2.2=b.2.2
def zW(n:Nat)(a b:Cl n):Prop:=(aw n a.1.1 n b.1.1=true/\aw n a.1.2.1 n b.1.2.1=true/\aw n a.1.2.2 n b.1.2.2=true)/\dv (zZ n) a.2.2 b.2.2
def sk(n:Nat)(a b:Bh n):Prop:=a.1=b.1/\dv (zW n) a.2.2 b.2.2
theorem Cu{n m:Nat}{x:Tm n}{y:Tm m}(a:aw n x m y=true):(ib n x).1=(ib m y).1/\(ib n x).2.2.1=(ib m y).2.2.1:=by
 cases n with
 | zero=>simp[aw]at a
 | succ n=>
  cases m with
  | zero=>simp[aw]at a
  | succ m=>
   have b:=bq a;have c:=cS _ _ _ b.2;simp only[ib,bm];exact⟨b.1,c⟩
theorem pQ{n m:Nat}{x:Tm n}{y:Tm m}(b:aw n x m y=true):eu n x=eu m y:=by
 have a:=Cu b;simp only[eu,a.1,a.2]
theorem KN{n:Nat}{a b:Ac n}(c:zZ n a b):lE n a=lE n b:=by
 obtain⟨d,e,f,g⟩:=c;simp only[lE,d,g,pQ e,pQ f]
theorem KQ{n:Nat}{a b:Cl n}(c:zW n a b):qS n a=qS n b:=by
 simp only[qS,c.2.1,dv.all (R:=zZ n) (lE n) (lE n) (λ_ _ c=>KN c) _ _ c.2]
theorem KP{n:Nat}{a b:Bh n}(c:sk n a b):sj n a=sj n b:=by
 simp only[sj,c.1,c.2.1,dv.all (R:=zW n) (qS n) (qS n) (λ_ _ c=>KQ c) _ _ c.2]
theorem Co{n:Nat}{l r:List (Bh n)}(a:dv (sk n) l r):jm n l=jm n r:=by
 simp only[jm,a.1,dv.all (R:=sk n) (sj n) (sj n) (λ_ _ a=>KP a) _ _ a]
theorem dc(s:ByteArray)(N M:Nat):aw (N+1) (aQ s N) (M+1) (aQ s M)=true:=bS rfl rfl
theorem oB(k u:Int)(N M:Nat):aw (N+1) (aS k u N) (M+1) (aS k u M)=true:=bS rfl rfl
theorem fV{N M:Nat}{l:List (Tm N)}{r:List (Tm M)}(c:av (λa b=>aw N a M b) l r=true):aw (N+1) (cI N l) (M+1) (cI M r)=true:=bS rfl c
theorem kO:(N n:Nat)->n<=N->(x:Tm n)->aw n x n x=true->aw N (aH N n x) n x=true
 | _,0,_,_,h=>by simp[aw]at h
 | 0,n+1,h,_,_=>by omega
 | N+1,n+1,h,x,hr=>by
  have b:=(bq hr).2;refine bS rfl (gS _ _ _ λy c=>kO N n (by omega) y ?_);obtain⟨i,a⟩:=cF c;exact jV _ _ _ b i y y a a
theorem vh{n m:Nat}{x:Tm n}{y:Tm m}(a:aw n x m y=true):aw n x n x=true:=bJ _ _ _ _ _ _ a (dD _ _ _ _ a)
theorem Bi{n m:Nat}{x:Tm n}{y:Tm m}(a:aw n x m y=true):aw m y m y=true:=bJ _ _ _ _ _ _ (dD _ _ _ _ a) a
theorem np{N n m:Nat}(c:n<=N)(b:m<=N){x:Tm n}{y:Tm m}(a:aw n x m y=true):aw N (aH N n x) N (aH N m y)=true:=
 bJ _ _ _ _ _ _ (kO N n c x (vh a)) (bJ _ _ _ _ _ _ a (dD _ _ _ _ (kO N m b y (Bi a))))
theorem kr{B:Nat}{w:World}:{n:Nat}->{x:Tm n}->In B w n x->aw n x n x=true
 | 0,_,k=>k.elim
 | n+1,x,k=>by
  refine bS rfl (jW _ _ λy a=>?_);obtain⟨i,c⟩:=cF a;rcases k.2 with e|⟨b,o,_,_,d⟩
  ·rw[e]at a;cases a
  ·exact kr (d i y c).2
theorem EN{n:Nat}{a b:Ac (n+1)}(e:zZ (n+1) a b):aw (n+2) (da n a) (n+2) (da n b)=true:=by
 obtain⟨f,c,d,g⟩:=e;unfold da;rw[f,g];split
 ·exact fV (by simp[av,dc,c,d])
 split
 ·exact fV (by simp[av,dc,oB,d])
 split
 ·exact fV (by simp[av,dc,c])
 ·exact fV (by simp[av,dc])
theorem E6{n:Nat}{a b:Cl (n+1)}(c:zW (n+1) a b):aw (n+4) (ey n a) (n+4) (ey n b)=true:=by
 have d:=dv.same (da n) (da n) (λ_ _ c=>EN c) _ _ c.2;exact fV (by simp only[av,aB];exact⟨dc _ _ _,np (by omega) (by omega) c.1.1,np (by omega) (by omega) c.1.2.1,fV d,np (by omega) (by omega) c.1.2.2,trivial⟩)
theorem ES{n:Nat}{a b:Bh (n+1)}(c:sk (n+1) a b):aw (n+5) (ei n a) (n+5) (ei n b)=true:=by
 have d:=dv.same (ey n) (ey n) (λ_ _ c=>E6 c) _ _ c.2;refine fV ?_;simp only[av,aB];exact⟨dc _ _ _,by rw[c.1];exact dc _ _ _,d⟩
theorem tr{n:Nat}{l r:List (Bh (n+1))}(a:dv (sk (n+1)) l r):aw (n+6) (cO n l) (n+6) (cO n r)=true:=by
 have b:=dv.same (ei n) (ei n) (λ_ _ a=>ES a) _ _ a;refine fV ?_;simp only[av,aB];exact⟨dc _ _ _,b⟩
theorem dl(k u:Int)(s:ByteArray)(a:Option Addr)(l c:Nat)(w:World):Calls Tryz.prog 130 #[.agg #[.int .i64 k,.int .i64 u,.string s,.slice a l c]] w λe w'=>e=.returned (.bool (k==0 && u==0 && s.toList.isEmpty && (l:Int)==0))/\w'=w.alloc (.cells #[.int .i64 k,.int .i64 u,.string s,.slice a l c] 30):=by
 cases h1:k==0
 ·go_enter Tryz.func130,Tryz.ntmps130;go_wp2_with fail
  go_ret
  exact⟨rfl,rfl⟩
 cases h2:u==0
 ·go_enter Tryz.func130,Tryz.ntmps130;go_wp2_with fail
  go_ret
  exact⟨rfl,rfl⟩
 cases h3:s.toList.isEmpty
 ·go_enter Tryz.func130,Tryz.ntmps130;go_wp2_with fail
  go_ret
  exact⟨rfl,rfl⟩
 go_enter Tryz.func130,Tryz.ntmps130;go_wp2_with fail
 go_ret
 exact⟨rfl,rfl⟩
theorem oO(K a t1 c d v:Int)(t2 f s:ByteArray)(b g:Option Addr)(t4 t5 h i:Nat)(w:World):Calls Tryz.prog 129 #[.agg #[.int .i64 K,.int .i64 a,.int .i64 t1,.string t2,.slice b t4 t5,.int .i64 c,.int .i64 d,.string f,.slice g h i,.string s,.int .i64 v]] w λe w'=>e=.returned (.bool (th s v))/\w'=w.alloc (.cells #[.int .i64 K,.int .i64 a,.int .i64 t1,.string t2,.slice b t4 t5,.int .i64 c,.int .i64 d,.string f,.slice g h i,.string s,.int .i64 v] 74):=by
 unfold th;cases h3:s.toList.isEmpty
 ·go_enter Tryz.func129,Tryz.ntmps129;go_wp2_with fail
  go_ret
  exact⟨rfl,rfl⟩
 go_enter Tryz.func129,Tryz.ntmps129;go_wp2_with fail
 go_ret
 exact⟨rfl,rfl⟩
theorem AG(K o t1 p q v:Int)(t2 r s:ByteArray)(u x:Option Addr)(t4 t5 t y:Nat)(w:World)(m:s.size<=9223372036854775807)(h i l n:Bool)(a:Hid ((o==0 && t1==0 && t2.toList.isEmpty && (t4:Int)==0)=h))(d:Hid ((p==0 && q==0 && r.toList.isEmpty && (t:Int)==0)=i))(j:Hid (th s v=l))(f:Hid (ch s=n)):Calls Tryz.prog 112 #[.agg #[.int .i64 K,.int .i64 o,.int .i64 t1,.string t2,.slice u t4 t5,.int .i64 p,.int .i64 q,.string r,.slice x t y,.string s,.int .i64 v]] w λe w'=>e=.returned (.bool (if K=1 then l else if K=2 then h && n && decide (0<=v) && decide (v<4)else if K=3 then i && l else if K=4 then h && i && l else false))/\Below w.heap.size w w':=by
 by_cases b:K=1
 ·subst b;rw[if_pos rfl];go_enter Tryz.func112,Tryz.ntmps112;go_wp2_with (go_at_call 129;refine(oO _ _ _ _ _ _ _ _ _ _ _ _ _ _ _ _).mono ?_;rintro e w' ⟨rfl,rfl⟩;rw[j.out])
  go_ret
  exact⟨rfl,by go_grown⟩
 rw[if_neg b];by_cases c:K=2
 ·subst c;rw[if_pos rfl];clear d j b;cases h
  ·go_enter Tryz.func112,Tryz.ntmps112;go_wp2_with (go_at_call 130;refine(dl _ _ _ _ _ _ _).mono ?_;rintro e w' ⟨rfl,rfl⟩;rw[a.out])
   go_ret
   exact⟨rfl,by go_grown⟩
  cases n
  ·go_enter Tryz.func112,Tryz.ntmps112;go_wp2_with (first|(go_at_call 130;refine(dl _ _ _ _ _ _ _).mono ?_;rintro e w' ⟨rfl,rfl⟩;rw[a.out])|(go_at_call 49;refine(gM _ _ m).mono ?_;rintro e w' ⟨rfl,rfl⟩;rw[f.out]))
   go_ret
   exact⟨rfl,by go_grown⟩
  cases hv:decide (0<=v)
  ·go_enter Tryz.func112,Tryz.ntmps112;go_wp2_with (first|(go_at_call 130;refine(dl _ _ _ _ _ _ _).mono ?_;rintro e w' ⟨rfl,rfl⟩;rw[a.out])|(go_at_call 49;refine(gM _ _ m).mono ?_;rintro e w' ⟨rfl,rfl⟩;rw[f.out]))
   go_ret
   exact⟨rfl,by go_grown⟩
  ·go_enter Tryz.func112,Tryz.ntmps112;go_wp2_with (first|(go_at_call 130;refine(dl _ _ _ _ _ _ _).mono ?_;rintro e w' ⟨rfl,rfl⟩;rw[a.out])|(go_at_call 49;refine(gM _ _ m).mono ?_;rintro e w' ⟨rfl,rfl⟩;rw[f.out]))
   go_ret
   exact⟨rfl,by go_grown⟩
 rw[if_neg c];by_cases g:K=3
 ·subst g;rw[if_pos rfl];clear a f b c;cases i
  ·go_enter Tryz.func112,Tryz.ntmps112;go_wp2_with (go_at_call 130;refine(dl _ _ _ _ _ _ _).mono ?_;rintro e w' ⟨rfl,rfl⟩;rw[d.out])
   go_ret
   exact⟨rfl,by go_grown⟩
  ·go_enter Tryz.func112,Tryz.ntmps112;go_wp2_with (first|(go_at_call 130;refine(dl _ _ _ _ _ _ _).mono ?_;rintro e w' ⟨rfl,rfl⟩;rw[d.out])|(go_at_call 129;refine(oO _ _ _ _ _ _ _ _ _ _ _ _ _ _ _ _).mono ?_;rintro e w' ⟨rfl,rfl⟩;rw[j.out]))
   go_ret
   exact⟨rfl,by go_grown⟩
 rw[if_neg g];by_cases k:K=4
 ·subst k;rw[if_pos rfl];clear f b c g;cases h
  ·go_enter Tryz.func112,Tryz.ntmps112;go_wp2_with (go_at_call 130;refine(dl _ _ _ _ _ _ _).mono ?_;rintro e w' ⟨rfl,rfl⟩;rw[a.out])
   go_ret
   exact⟨rfl,by go_grown⟩
  cases i
  ·go_enter Tryz.func112,Tryz.ntmps112;go_wp2_with (go_at_call 130;refine(dl _ _ _ _ _ _ _).mono ?_;rintro e w' ⟨rfl,rfl⟩;first|rw[a.out]|rw[d.out])
   go_ret
   exact⟨rfl,by go_grown⟩
  ·go_enter Tryz.func112,Tryz.ntmps112;go_wp2_with (first|(go_at_call 130;refine(dl _ _ _ _ _ _ _).mono ?_;rintro e w' ⟨rfl,rfl⟩;first|rw[a.out]|rw[d.out])|(go_at_call 129;refine(oO _ _ _ _ _ _ _ _ _ _ _ _ _ _ _ _).mono ?_;rintro e w' ⟨rfl,rfl⟩;rw[j.out]))
   go_ret
   exact⟨rfl,by go_grown⟩
 rw[if_neg k];have z:(K==1)=false:=by simpa using b
 have A:(K==2)=false:=by simpa using c
 have B:(K==3)=false:=by simpa using g
 have C:(K==4)=false:=by simpa using k
 clear b c g k;go_enter Tryz.func112,Tryz.ntmps112;go_wp2_with fail
 go_ret
 exact⟨rfl,by go_grown⟩
theorem Dh(n:Nat)(a:Ac (n+1))(w:World)(b:a.2.2.1.size<=maxLen):Calls Tryz.prog 112 #[.agg (fm (n+1) a).toArray] w λe w'=>e=.returned (.bool (lE (n+1) a))/\Below w.heap.size w w':=by
 unfold maxLen at b;exact AG a.1 _ _ _ _ _ _ _ _ _ _ _ _ _ _ w (by omega) _ _ _ _ rfl rfl rfl rfl
def Jw(n:Nat)(w:World)(b o:Nat)(x:Ac (n+1)):Prop:=
 w.cell? ⟨b,o,none⟩=some (.int .i64 x.1)/\
 (w.cell? ⟨b,o+1,none⟩=some (.int .i64 x.2.1.1.1.1)/\w.cell? ⟨b,o+2,none⟩=some (.int .i64 x.2.1.1.1.2.1)/\w.cell? ⟨b,o+3,none⟩=some (.string x.2.1.1.1.2.2)/\w.cell? ⟨b,o+4,none⟩=some (.slice x.2.1.1.2.1.1 x.2.1.1.2.2.length x.2.1.1.2.1.2))/\
 (w.cell? ⟨b,o+5,none⟩=some (.int .i64 x.2.1.2.1.1)/\w.cell? ⟨b,o+6,none⟩=some (.int .i64 x.2.1.2.1.2.1)/\w.cell? ⟨b,o+7,none⟩=some (.string x.2.1.2.1.2.2)/\w.cell? ⟨b,o+8,none⟩=some (.slice x.2.1.2.2.1.1 x.2.1.2.2.2.length x.2.1.2.2.1.2))/\
 w.cell? ⟨b,o+9,none⟩=some (.string x.2.2.1)/\w.cell? ⟨b,o+10,none⟩=some (.int .i64 x.2.2.2)
def JA(n:Nat)(w:World)(b o:Nat)(x:Cl (n+1)):Prop:=
 (w.cell? ⟨b,o,none⟩=some (.int .i64 x.1.1.1.1)/\w.cell? ⟨b,o+1,none⟩=some (.int .i64 x.1.1.1.2.1)/\w.cell? ⟨b,o+2,none⟩=some (.string x.1.1.1.2.2)/\w.cell? ⟨b,o+3,none⟩=some (.slice x.1.1.2.1.1 x.1.1.2.2.length x.1.1.2.1.2))/\
 (w.cell? ⟨b,o+4,none⟩=some (.int .i64 x.1.2.1.1.1)/\w.cell? ⟨b,o+5,none⟩=some (.int .i64 x.1.2.1.1.2.1)/\w.cell? ⟨b,o+6,none⟩=some (.string x.1.2.1.1.2.2)/\w.cell? ⟨b,o+7,none⟩=some (.slice x.1.2.1.2.1.1 x.1.2.1.2.2.length x.1.2.1.2.1.2))/\
 w.cell? ⟨b,o+8,none⟩=some (.slice x.2.1.1 x.2.2.length x.2.1.2)/\
 (w.cell? ⟨b,o+9,none⟩=some (.int .i64 x.1.2.2.1.1)/\w.cell? ⟨b,o+10,none⟩=some (.int .i64 x.1.2.2.1.2.1)/\w.cell? ⟨b,o+11,none⟩=some (.string x.1.2.2.1.2.2)/\w.cell? ⟨b,o+12,none⟩=some (.slice x.1.2.2.2.1.1 x.1.2.2.2.2.length x.1.2.2.2.1.2))
theorem nX.ac{n B:Nat}{w:World}{I:Ac (n+1)->Prop}{a:Option Addr}{p:List (Ac (n+1))}(d:nX B w 11 (fm (n+1)) I a p)(k:Nat)(x:Ac (n+1))(e:p[k]?=some x):∃b o,a=some ⟨b,o,none⟩/\b<B/\Jw n w b (o+k*11) x/\I x:=by
 rcases d with d|⟨b,o,f,h,d⟩
 ·subst d;simp at e
 ·obtain⟨c,g⟩:=d k x e;exact⟨b,o,f,h,⟨c 0 _ rfl,⟨c 1 _ rfl,c 2 _ rfl,c 3 _ rfl,c 4 _ rfl⟩,⟨c 5 _ rfl,c 6 _ rfl,c 7 _ rfl,c 8 _ rfl⟩,c 9 _ rfl,c 10 _ rfl⟩,g⟩
theorem nX.cl{n B:Nat}{w:World}{I:Cl (n+1)->Prop}{a:Option Addr}{p:List (Cl (n+1))}(d:nX B w 13 (et (n+1)) I a p)(k:Nat)(x:Cl (n+1))(e:p[k]?=some x):∃b o,a=some ⟨b,o,none⟩/\b<B/\JA n w b (o+k*13) x/\I x:=by
 rcases d with d|⟨b,o,f,h,d⟩
 ·subst d;simp at e
 ·obtain⟨c,g⟩:=d k x e;exact⟨b,o,f,h,⟨⟨c 0 _ rfl,c 1 _ rfl,c 2 _ rfl,c 3 _ rfl⟩,⟨c 4 _ rfl,c 5 _ rfl,c 6 _ rfl,c 7 _ rfl⟩,c 8 _ rfl,c 9 _ rfl,c 10 _ rfl,c 11 _ rfl,c 12 _ rfl⟩,g⟩
theorem nX.bh{n B:Nat}{w:World}{I:Bh (n+1)->Prop}{a:Option Addr}{p:List (Bh (n+1))}(c:nX B w 2 (mW (n+1)) I a p)(k:Nat)(x:Bh (n+1))(e:p[k]?=some x):∃b o,a=some ⟨b,o,none⟩/\b<B/\(w.cell? ⟨b,o+k*2,none⟩=some (.string x.1)/\w.cell? ⟨b,o+k*2+1,none⟩=some (.slice x.2.1.1 x.2.2.length x.2.1.2))/\I x:=by
 rcases c with c|⟨b,o,f,h,c⟩
 ·subst c;simp at e
 ·obtain⟨d,g⟩:=c k x e;exact⟨b,o,f,h,⟨d 0 _ rfl,d 1 _ rfl⟩,g⟩
theorem jt{b:Type}{I:Nat->World->b->Prop}{c:(Nat->Prop)->b->Prop}(e:jb I c){k:Nat}{f:b->List Value}{a:Option Addr}{B:Nat}{w w':World}(g:Below B w w'){l:List b}(d:nX B w k f (I B w) a l):nX B w' k f (I B w') a l:=(bZ e k f a).below g d
theorem xx(n:Nat)(p:List (Ac (n+1)))(len:Nat)(r:Hid (p.length=len))(a:Option Addr)(pc B:Nat)(w:World)(u:Hid (nX B w 11 (fm (n+1)) (gE (n+1) B w) a p))(C:len<=9223372036854775807)(s:B<=w.heap.size):Calls Tryz.prog 92 #[.slice a len pc] w λe w'=>e=.returned (.bool (decide ((len:Int)<=8) && p.all (lE (n+1))))/\Below w.heap.size w w':=by
 by_cases x:(8:Int)<len
 ·have f:decide ((len:Int)<=8)=false:=by simp;omega
  rw[f];go_enter Tryz.func92,Tryz.ntmps92;go_wp2_with fail
  go_ret
  exact⟨rfl,ah _ _⟩
 have f:decide ((len:Int)<=8)=true:=by simp;omega
 rw[f,dZ];clear f;go_enter Tryz.func92,Tryz.ntmps92;go_wp2_with fail;go_loopw [10] (λj wr=>∃k:Nat,k<=len/\j=.int .i64 k/\Below w.heap.size w wr/\Hid ((p.drop k).all (lE (n+1))=p.all (lE (n+1)))) (λj _=>len-(intOf j).toNat)
 case atStart=>exact⟨0,by omega,rfl,ah _ _,rfl⟩
 case round=>
  obtain⟨k,y,rfl,d,h⟩:=hrel;by_cases t:k<len
  ·obtain⟨b,i⟩:∃b,p[k]?=some b:=⟨p[k]'(by rw[r.out];exact t),az _⟩;have l:=ai (pd (lE (n+1)) p k b i);obtain⟨E,po,rfl,D,⟨F,⟨G,I,J,K⟩,⟨L,M,N,O⟩,P,H⟩,q⟩:=(jt (eU (n+1)) (d.mono s) u.out).ac k b i;have g:=λc=>ai (Dh n b c q.2.2.2.1);replace g:Hid (∀c,Calls Tryz.prog 112 #[.agg #[.int .i64 b.1,.int .i64 b.2.1.1.1.1,.int .i64 b.2.1.1.1.2.1,.string b.2.1.1.1.2.2,.slice b.2.1.1.2.1.1 b.2.1.1.2.2.length b.2.1.1.2.1.2,.int .i64 b.2.1.2.1.1,.int .i64 b.2.1.2.1.2.1,.string b.2.1.2.1.2.2,.slice b.2.1.2.2.1.1 b.2.1.2.2.2.length b.2.1.2.2.1.2,.string b.2.2.1,.int .i64 b.2.2.2]] c λe w'=>e=.returned (.bool (lE (n+1) b))/\Below c.heap.size c w'):=λc=>(g c).out;clear q i;generalize lE (n+1) b=v at*;have z:(0:Int)<=(k:Int):=by omega
   have A:(k:Int)<(len:Int):=by omega
   go_wp2_with fail;refine(g.out _).mono ?_;rintro e c ⟨rfl,m⟩;have o:Below w.heap.size w c:=(d.trans (((ah _ _).alloc (ag _) _).mono d.size)).trans (m.mono (by have:=d.size;simp;omega));clear m;cases v with
   | true=>
    go_wp2_with fail;go_roundw
    case rel=>exact⟨k+1,by omega,by go_num,o,by rw[<-h.out,l.out];rfl⟩
    case measure=>simp[intOf];omega
   | false=>
    go_wp2_with fail
    go_ret
    exact⟨bE (by rw[<-h.out,l.out];rfl),o⟩
  ·go_wp2_with fail
   go_ret
   refine⟨bE ?_,d⟩;rw[<-h.out,fC (by rw[r.out];omega)];rfl
theorem si(n:Nat)(p:List (Cl (n+1)))(len:Nat)(s:Hid (p.length=len))(a:Option Addr)(pc B:Nat)(w:World)(y:Hid (nX B w 13 (et (n+1)) (fW (n+1) B w) a p))(G:len<=9223372036854775807)(m:B<=w.heap.size):Calls Tryz.prog 69 #[.slice a len pc] w λe w'=>e=.returned (.bool (decide (1<=(len:Int)) && decide ((len:Int)<=6) && p.all (qS (n+1))))/\Below w.heap.size w w':=by
 by_cases A:(len:Int)<1
 ·have v:decide (1<=(len:Int))=false:=by simp;omega
  rw[v];go_enter Tryz.func69,Tryz.ntmps69;go_wp2_with fail
  go_ret
  exact⟨rfl,ah _ _⟩
 by_cases C:(6:Int)<len
 ·have f:decide ((len:Int)<=6)=false:=by simp;omega
  rw[f];go_enter Tryz.func69,Tryz.ntmps69;go_wp2_with fail
  go_ret
  exact⟨bE (by simp),ah _ _⟩
 have f:(decide (1<=(len:Int)) && decide ((len:Int)<=6))=true:=by simp;omega
 rw[f,dZ];clear f;go_enter Tryz.func69,Tryz.ntmps69;go_wp2_with fail;go_loopw [15] (λj wr=>∃k:Nat,k<=len/\j=.int .i64 k/\Below w.heap.size w wr/\Hid ((p.drop k).all (qS (n+1))=p.all (qS (n+1)))) (λj _=>len-(intOf j).toNat)
 case atStart=>exact⟨0,by omega,rfl,ah _ _,rfl⟩
 case round=>
  obtain⟨k,D,rfl,d,g⟩:=hrel;by_cases x:k<len
  ·obtain⟨b,i⟩:∃b,p[k]?=some b:=⟨p[k]'(by rw[s.out];exact x),az _⟩;have l:=ai (pd (qS (n+1)) p k b i);obtain⟨I,po,rfl,H,⟨⟨J,K,O,P⟩,⟨Q,R,S,T⟩,U,V,L,M,N⟩,h⟩:=(jt (dU (n+1)) (d.mono m) y.out).cl k b i;have o:B<=wr.heap.size:=au m d.size
   have u:Hid (∀c,Below wr.heap.size wr c->Calls Tryz.prog 92 #[.slice b.2.1.1 b.2.2.length b.2.1.2] c λe w'=>e=.returned (.bool (qS (n+1) b))/\Below c.heap.size c w'):=
    λc t=>xx n b.2.2 b.2.2.length rfl b.2.1.1 b.2.1.2 B c (jt (eU (n+1)) (t.mono o) h.2.2) (by have:=h.2.1;unfold maxLen at this;omega) (au o t.size)
   clear h i;generalize qS (n+1) b=z at*;have E:(0:Int)<=(k:Int):=by omega
   have F:(k:Int)<(len:Int):=by omega
   go_wp2_with fail;refine(u.out _ ((ah _ _).alloc (ag _) _)).mono ?_;rintro e c ⟨rfl,q⟩;have r:Below w.heap.size w c:=(d.trans (((ah _ _).alloc (ag _) _).mono d.size)).trans (q.mono (by have:=d.size;simp;omega));clear q;cases z with
   | true=>
    go_wp2_with fail;go_roundw
    case rel=>exact⟨k+1,by omega,by go_num,r,by rw[<-g.out,l.out];rfl⟩
    case measure=>simp[intOf];omega
   | false=>
    go_wp2_with fail
    go_ret
    exact⟨bE (by rw[<-g.out,l.out];rfl),r⟩
  ·go_wp2_with fail
   go_ret
   refine⟨bE ?_,d⟩;rw[<-g.out,fC (by rw[s.out];omega)];rfl
theorem JR(n:Nat)(x:Bh n):sj n x=(ch x.1 && (decide (1<=(x.2.2.length:Int)) && decide ((x.2.2.length:Int)<=6) && x.2.2.all (qS n))):=by
 simp only[sj,Bool.and_assoc]
theorem oc(n:Nat)(p:List (Bh (n+1)))(len:Nat)(l:Hid (p.length=len))(a:Option Addr)(pc B:Nat)(w:World)(D:Hid (fl (n+1) B w a p))(M:len<=9223372036854775807)(s:B<=w.heap.size):Calls Tryz.prog 46 #[.slice a len pc] w λe w'=>e=.returned (.bool (jm (n+1) p))/\Below w.heap.size w w':=by
 have r:Hid (jm (n+1) p=(decide (1<=(len:Int)) && decide ((len:Int)<=7) && p.all (sj (n+1)))):=by
  show jm (n+1) p=_;rw[<-l.out];rfl
 rw[r.out];by_cases H:(len:Int)<1
 ·have A:decide (1<=(len:Int))=false:=by simp;omega
  rw[A];go_enter Tryz.func46,Tryz.ntmps46;go_wp2_with fail
  go_ret
  exact⟨rfl,ah _ _⟩
 by_cases I:(7:Int)<len
 ·have f:decide ((len:Int)<=7)=false:=by simp;omega
  rw[f];go_enter Tryz.func46,Tryz.ntmps46;go_wp2_with fail
  go_ret
  exact⟨bE (by simp),ah _ _⟩
 have f:(decide (1<=(len:Int)) && decide ((len:Int)<=7))=true:=by simp;omega
 rw[f,dZ];clear f r;go_enter Tryz.func46,Tryz.ntmps46;go_wp2_with fail;go_loopw [15] (λo wr=>∃k:Nat,k<=len/\o=.int .i64 k/\Below w.heap.size w wr/\Hid ((p.drop k).all (sj (n+1))=p.all (sj (n+1)))) (λo _=>len-(intOf o).toNat)
 case atStart=>exact⟨0,by omega,rfl,ah _ _,rfl⟩
 case round=>
  obtain⟨k,J,rfl,d,g⟩:=hrel;by_cases C:k<len
  ·obtain⟨b,m⟩:∃b,p[k]?=some b:=⟨p[k]'(by rw[l.out];exact C),az _⟩;have j:=ai (pd (sj (n+1)) p k b m);obtain⟨O,po,rfl,N,⟨Q,R⟩,h⟩:=(fl.below (d.mono s) D.out).bh k b m;have t:B<=wr.heap.size:=au s d.size;have E:b.1.size<=9223372036854775807:=by have:=h.1;unfold maxLen at this;omega
   have z:Hid (∀c,Below wr.heap.size wr c->Calls Tryz.prog 69 #[.slice b.2.1.1 b.2.2.length b.2.1.2] c λe w'=>e=.returned (.bool (decide (1<=(b.2.2.length:Int)) && decide ((b.2.2.length:Int)<=6) && b.2.2.all (qS (n+1))))/\Below c.heap.size c w'):=
    λc y=>si n b.2.2 b.2.2.length rfl b.2.1.1 b.2.1.2 B c (jt (dU (n+1)) (y.mono t) h.2.2) (by have:=h.2.1;unfold maxLen at this;omega) (au t y.size)
   have i:=ai (JR (n+1) b);clear h m;generalize (decide (1<=(b.2.2.length:Int)) && decide ((b.2.2.length:Int)<=6) && b.2.2.all (qS (n+1)))=F at*;have K:(0:Int)<=(k:Int):=by omega
   have L:(k:Int)<(len:Int):=by omega
   have q:=λc=>ai (gM b.1 c E);generalize ch b.1=G at*;generalize sj (n+1) b=P at*;have u:Below w.heap.size w (wr.alloc (.cells #[.string b.1,.slice b.2.1.1 b.2.2.length b.2.1.2] 80)):=d.trans (((ah _ _).alloc (ag _) _).mono d.size);cases G with
   | false=>
    go_wp2_with (go_at_call 49;refine(q _).out.mono ?_;rintro e w' ⟨rfl,rfl⟩)
    go_ret
    exact⟨bE (by rw[<-g.out,j.out,i.out];rfl),u⟩
   | true=>
    go_wp2_with (first|(go_at_call 49;refine(q _).out.mono ?_;rintro e w' ⟨rfl,rfl⟩)|(go_at_call 69;refine(z.out _ ((ah _ _).alloc (ag _) _)).mono ?_;rintro e c ⟨rfl,v⟩;have x:Below w.heap.size w c:=u.trans (v.mono (by have:=d.size;simp;omega));clear v;cases F))
    ·go_ret
     exact⟨bE (by rw[<-g.out,j.out,i.out];rfl),x⟩
    ·go_roundw
     case rel=>exact⟨k+1,by omega,by go_num,x,by rw[<-g.out,j.out,i.out];rfl⟩
     case measure=>simp[intOf];omega
  ·go_wp2_with fail
   go_ret
   refine⟨bE ?_,d⟩;rw[<-g.out,fC (by rw[l.out];omega)];rfl
theorem gJ(s:ByteArray)(w:World):Calls Tryz.prog 70 #[.string s] w λe w'=>e=.returned (.agg #[.int .i64 2,.int .i64 0,.string s,.slice none 0 0])/\w'=w.alloc (.cells #[.int .i64 2,.int .i64 0,.string s,.slice none 0 0] 30):=by
 go_enter Tryz.func70,Tryz.ntmps70;go_wp2_with fail;exact ao (v:=.agg #[.int .i64 2,.int .i64 0,.string s,.slice none 0 0]) (by simp[results,Tryz.results70,go_sem]) rfl ⟨rfl,rfl⟩
theorem eW(a:Option Addr)(l c:Nat)(w:World):Calls Tryz.prog 72 #[.slice a l c] w λe w'=>e=.returned (.agg #[.int .i64 4,.int .i64 0,.string ⟨#[]⟩,.slice a l c])/\w'=w.alloc (.cells #[.int .i64 4,.int .i64 0,.string ⟨#[]⟩,.slice a l c] 30):=by
 go_enter Tryz.func72,Tryz.ntmps72;go_wp2_with fail;exact ao (v:=.agg #[.int .i64 4,.int .i64 0,.string ⟨#[]⟩,.slice a l c]) (by simp[results,Tryz.results72,go_sem]) rfl ⟨rfl,rfl⟩
def gH(B N:Nat)(c:Tm N)(w:World)(e:Ending)(w':World):Prop:=
 ∃a:Tm N,e=.returned (de N a)/\Hid (Below w.heap.size w w'/\In w'.heap.size w' N a/\cg (λb=>b<B\/w.heap.size<=b) N a/\aw N a N c=true)
abbrev dP(n B base:Nat)(xs:List (Tm n))(v:Value)(w0 wr:World):Prop:=eI (λB w x=>In B w n x) (λP x=>cg P n x) (f8 n) 4 30 B base xs v w0 wr
theorem lQ(n:Nat)(x:Tm n):(f8 n x).length=4:=rfl
theorem eJ(s:ByteArray)(N:Nat)(a:s.size<=maxLen)(B:Nat)(w:World):In B w (N+1) (aQ s N):=⟨⟨by simp[aQ,cY],by simp[aQ,cY],a,by simp[aQ],by simp[aQ]⟩,ae rfl⟩
theorem FD(k u:Int)(N:Nat)(a:cY k)(b:cY u)(B:Nat)(w:World):In B w (N+1) (aS k u N):=⟨⟨a,b,aD _,by simp[aS],by simp[aS]⟩,ae rfl⟩
theorem mV(s:ByteArray)(N:Nat)(P:Nat->Prop):cg P (N+1) (aQ s N):=ae rfl
theorem Ca{n:Nat}{w:World}{b o:Nat}{x:Tm n}{B:Nat}{w0:World}(c:In B w0 n x)(a:∀(j:Nat)(u:Value),(f8 n x)[j]?=some u->w.cell? ⟨b,o+j,none⟩=some u):dk w b o n x:=by
 cases n with
 | zero=>exact c.elim
 | succ n=>exact⟨a 0 _ rfl,a 1 _ rfl,a 2 _ rfl,a 3 _ rfl⟩
theorem dP.tells{B base N:Nat}{xs ys:List (Tm N)}{v:Value}{w w0 wr w':World}(p:dP N B base xs v w0 wr)(x:w.heap.size<=base)(s:av (λa b=>aw N a N b) xs ys=true)(u:∀b,b<B\/base<=b->b<wr.heap.size->w'.heap[b]?=wr.heap[b]?)(t:wr.heap.size<=w'.heap.size)(g:Below w.heap.size w w'):∃a c,v=.slice a xs.length c/\gH B (N+1) (cI N ys) w (.returned (.agg #[.int .i64 4,.int .i64 0,.string ⟨#[]⟩,.slice a xs.length c])) w':=by
 have j:=dK N;obtain⟨a,c,f,m,n,e⟩:=p.lay j (lQ N);refine⟨a,c,f,((4,0,.empty),(a,c),xs),rfl,g,⟨⟨by simp[cY],by simp[cY],aD _,m.1,m.2⟩,?_⟩,?_,bS rfl s⟩
 ·have q:=(bZ j 4 (f8 N) a).2.1 _ _ _ _ e n;have r:=(bZ j 4 (f8 N) a).2.2.1 _ _ wr w' _ (λb l=>u b l.1 l.2) q n;have d:=(bZ j 4 (f8 N) a).2.2.2.1 _ _ _ _ t r;rcases d with d|⟨b,o,f,g,d⟩
  ·exact ae d
  ·exact af ⟨b,o,f,g,λk i h=>⟨Ca (d k i h).2 (d k i h).1,(d k i h).2⟩⟩
 ·rcases e with e|⟨b,o,f,g,e⟩
  ·exact ae e
  ·exact af ⟨b,o,f,by omega,λk i h=>(e i (ax h)).mono λb g=>by omega⟩
theorem nz{B N:Nat}(xs:List (Tm N)){w w1 w':World}{cs:Array Value}{g L:Nat}(a:Below w.heap.size w w1)(r:g=w1.heap.size)(p:L=xs.length)(e:Below (w1.alloc (.cells cs 30)).heap.size (w1.alloc (.cells cs 30)) w')(q:cs.toList=xs.flatMap (f8 N))(u:xs.length<=8)(i:B<=w.heap.size)(f:∀y∈xs,In B w N y):gH B (N+1) (cI N xs) w (.returned (.agg #[.int .i64 4,.int .i64 0,.string ⟨#[]⟩,.slice (some ⟨g,0,none⟩) L L])) w':=by
 have o:=eI.lit (T:=30) (k:=4) (B:=B) (base:=w1.heap.size) (dK N) xs (w0:=w1) q (lQ N) (by unfold maxLen;omega) (ag _) (ah _ _) (λy d=>⟨((f y d).below (a.mono i)).mono (au i a.size),(ni (f y d)).mono λb h=>ae h⟩);have j:Below w.heap.size w (w1.alloc (.cells cs 30)):=a.trans (((ah _ _).alloc (ag _) _).mono a.size);obtain⟨s,c,l,k⟩:=dP.tells o a.size (jW _ _ λy d=>kr (f y d)) (λb _ h=>e.block b h) e.size (j.trans (e.mono j.size));injection l with m t n;subst m n p r;exact k
theorem fU{w:World}{a b c:Obj}:Below w.heap.size w (((w.alloc a).alloc b).alloc c)/\w.heap.size+1+1+1=(((w.alloc a).alloc b).alloc c).heap.size:=
 ⟨(((ah _ _).alloc (ag _) _).alloc (by simp) _).alloc (by simp;omega) _,by simp⟩
theorem qW{w:World}{a b c d:Obj}:Below w.heap.size w ((((w.alloc a).alloc b).alloc c).alloc d)/\w.heap.size+1+1+1+1=((((w.alloc a).alloc b).alloc c).alloc d).heap.size:=
 ⟨((((ah _ _).alloc (ag _) _).alloc (by simp) _).alloc (by simp;omega) _).alloc (by simp;omega) _,by simp⟩
theorem tn{w:World}{o:Obj}:Below w.heap.size w (w.alloc o).drew:=((ah _ _).alloc (ag _) _).drew
theorem aG{w:World}{o:Obj}:Below w.heap.size w (w.alloc o):=(ah _ _).alloc (ag _) _
theorem gm(s:ByteArray)(a:s.size<=8):s.size<=maxLen:=by unfold maxLen;omega
theorem wW(n:Nat)(t x:Tm (n+1))(s:ByteArray)(v:Int)(B:Nat)(w:World)(b:In B w (n+1) t)(c:In B w (n+1) x)(h:B<=w.heap.size):Calls Tryz.prog 113 #[.agg #[.int .i64 1,.int .i64 t.1.1,.int .i64 t.1.2.1,.string t.1.2.2,.slice t.2.1.1 t.2.2.length t.2.1.2,.int .i64 x.1.1,.int .i64 x.1.2.1,.string x.1.2.2,.slice x.2.1.1 x.2.2.length x.2.1.2,.string s,.int .i64 v]] w (gH B (n+2) (cI (n+1) [aQ iB n,t,x]) w):=by
 have f:Hid (∀e∈[aQ iB n,t,x],In B w (n+1) e):=λe d=>by
  simp only[bF,dq,dt]at d;rcases d with rfl|rfl|rfl
  ·exact eJ _ _ (gm _ (by decide)) _ _
  ·exact b
  ·exact c
 clear b c;go_enter Tryz.func113,Tryz.ntmps113;go_wp2_with fail
 go_region_held3 (λa=>(a.cell? ⟨w.heap.size,1,none⟩=some (.int .i64 t.1.1)/\a.cell? ⟨w.heap.size,2,none⟩=some (.int .i64 t.1.2.1)/\a.cell? ⟨w.heap.size,3,none⟩=some (.string t.1.2.2)/\a.cell? ⟨w.heap.size,4,none⟩=some (.slice t.2.1.1 t.2.2.length t.2.1.2))/\
     (a.cell? ⟨w.heap.size,5,none⟩=some (.int .i64 x.1.1)/\a.cell? ⟨w.heap.size,6,none⟩=some (.int .i64 x.1.2.1)/\a.cell? ⟨w.heap.size,7,none⟩=some (.string x.1.2.2)/\a.cell? ⟨w.heap.size,8,none⟩=some (.slice x.2.1.1 x.2.2.length x.2.1.2))) (first|(go_keep;done)|(simp[go_sem];done))
  ((first|(go_at_call 70;refine(gJ _ _).mono ?_;rintro g i ⟨rfl,rfl⟩)|(go_at_call 72;refine(eW _ _ _ _).mono ?_;rintro g i ⟨rfl,rfl⟩)))
 go_wp2_with fail;exact ao (v:=.agg #[.int .i64 4,.int .i64 0,.string ⟨#[]⟩,.slice (some ⟨w.heap.size+1+1+1,0,none⟩) 3 3]) (by simp[results,Tryz.results113,go_sem]) rfl (nz [aQ iB n,t,x] fU.1 fU.2 rfl tn rfl (by simp) h f.out)
theorem wV(n:Nat)(t x:Tm (n+1))(s:ByteArray)(v:Int)(B:Nat)(w:World)(b:In B w (n+1) t)(g:B<=w.heap.size):Calls Tryz.prog 113 #[.agg #[.int .i64 3,.int .i64 t.1.1,.int .i64 t.1.2.1,.string t.1.2.2,.slice t.2.1.1 t.2.2.length t.2.1.2,.int .i64 x.1.1,.int .i64 x.1.2.1,.string x.1.2.2,.slice x.2.1.1 x.2.2.length x.2.1.2,.string s,.int .i64 v]] w (gH B (n+2) (cI (n+1) [aQ lZ n,t]) w):=by
 have e:Hid (∀d∈[aQ lZ n,t],In B w (n+1) d):=λd c=>by
  simp only[bF,dq,dt]at c;rcases c with rfl|rfl
  ·exact eJ _ _ (gm _ (by decide)) _ _
  ·exact b
 clear b;go_enter Tryz.func113,Tryz.ntmps113;go_wp2_with fail
 go_region_held3 (λa=>a.cell? ⟨w.heap.size,1,none⟩=some (.int .i64 t.1.1)/\a.cell? ⟨w.heap.size,2,none⟩=some (.int .i64 t.1.2.1)/\a.cell? ⟨w.heap.size,3,none⟩=some (.string t.1.2.2)/\a.cell? ⟨w.heap.size,4,none⟩=some (.slice t.2.1.1 t.2.2.length t.2.1.2)) (first|(go_keep;done)|(simp[go_sem];done))
  ((first|(go_at_call 70;refine(gJ _ _).mono ?_;rintro f h ⟨rfl,rfl⟩)|(go_at_call 72;refine(eW _ _ _ _).mono ?_;rintro f h ⟨rfl,rfl⟩)))
 go_wp2_with fail;exact ao (v:=.agg #[.int .i64 4,.int .i64 0,.string ⟨#[]⟩,.slice (some ⟨w.heap.size+1+1+1,0,none⟩) 2 2]) (by simp[results,Tryz.results113,go_sem]) rfl (nz [aQ lZ n,t] fU.1 fU.2 rfl tn rfl (by simp) g e.out)
theorem wX(n:Nat)(K:Int)(g:(K==1)=false)(h:(K==2)=false)(i:(K==3)=false)(t x:Tm (n+1))(s:ByteArray)(v:Int)(B:Nat)(w:World)(e:B<=w.heap.size):Calls Tryz.prog 113 #[.agg #[.int .i64 K,.int .i64 t.1.1,.int .i64 t.1.2.1,.string t.1.2.2,.slice t.2.1.1 t.2.2.length t.2.1.2,.int .i64 x.1.1,.int .i64 x.1.2.1,.string x.1.2.2,.slice x.2.1.1 x.2.2.length x.2.1.2,.string s,.int .i64 v]] w (gH B (n+2) (cI (n+1) [aQ l9 n]) w):=by
 have c:Hid (∀b∈[aQ l9 n],In B w (n+1) b):=λb a=>by
  simp only[bF,dq,dt]at a;subst a;exact eJ _ _ (gm _ (by decide)) _ _
 go_enter Tryz.func113,Tryz.ntmps113;go_wp2_with (first|(go_at_call 70;refine(gJ _ _).mono ?_;rintro d f ⟨rfl,rfl⟩)|(go_at_call 72;refine(eW _ _ _ _).mono ?_;rintro d f ⟨rfl,rfl⟩));exact ao (v:=.agg #[.int .i64 4,.int .i64 0,.string ⟨#[]⟩,.slice (some ⟨w.heap.size+1+1+1,0,none⟩) 1 1]) (by simp[results,Tryz.results113,go_sem]) rfl (nz [aQ l9 n] fU.1 fU.2 rfl aG rfl (by simp) e c.out)
theorem uo(n:Nat)(t x:Tm (n+1))(s:ByteArray)(v:Int)(c:cY v)(b:s.size<=maxLen)(B:Nat)(w:World)(d:In B w (n+1) x)(i:B<=w.heap.size):Calls Tryz.prog 113 #[.agg #[.int .i64 2,.int .i64 t.1.1,.int .i64 t.1.2.1,.string t.1.2.2,.slice t.2.1.1 t.2.2.length t.2.1.2,.int .i64 x.1.1,.int .i64 x.1.2.1,.string x.1.2.2,.slice x.2.1.1 x.2.2.length x.2.1.2,.string s,.int .i64 v]] w (gH B (n+2) (cI (n+1) [aQ iX n,aQ s n,x,aS 5 v n]) w):=by
 have g:Hid (∀f∈[aQ iX n,aQ s n,x,aS 5 v n],In B w (n+1) f):=λf e=>by
  simp only[bF,dq,dt]at e;rcases e with rfl|rfl|rfl|rfl
  ·exact eJ _ _ (gm _ (by decide)) _ _
  ·exact eJ _ _ b _ _
  ·exact d
  ·exact FD _ _ _ (by simp[cY]) c _ _
 clear d b c;go_enter Tryz.func113,Tryz.ntmps113;go_wp2_with fail
 go_region_held3 (λa=>(a.cell? ⟨w.heap.size,9,none⟩=some (.string s)/\a.cell? ⟨w.heap.size,10,none⟩=some (.int .i64 v))/\
     (a.cell? ⟨w.heap.size,5,none⟩=some (.int .i64 x.1.1)/\a.cell? ⟨w.heap.size,6,none⟩=some (.int .i64 x.1.2.1)/\a.cell? ⟨w.heap.size,7,none⟩=some (.string x.1.2.2)/\a.cell? ⟨w.heap.size,8,none⟩=some (.slice x.2.1.1 x.2.2.length x.2.1.2))) (first|(go_keep;done)|(simp[go_sem];done))
  ((first|(go_at_call 70;refine(gJ _ _).mono ?_;rintro h j ⟨rfl,rfl⟩)|(go_at_call 72;refine(eW _ _ _ _).mono ?_;rintro h j ⟨rfl,rfl⟩)))
 all_goals go_wp2_with fail
 all_goals exact ao (v:=.agg #[.int .i64 4,.int .i64 0,.string ⟨#[]⟩,.slice (some ⟨w.heap.size+1+1+1+1,0,none⟩) 4 4]) (by simp[results,Tryz.results113,go_sem]) rfl (nz [aQ iX n,aQ s n,x,aS 5 v n] qW.1 qW.2 rfl tn rfl (by simp) i g.out)
theorem zI(n:Nat)(a:Ac (n+1))(B:Nat)(w:World)(o:gE (n+1) B w a)(c:B<=w.heap.size):Calls Tryz.prog 113 #[.agg (fm (n+1) a).toArray] w (gH B (n+2) (da n a) w):=by
 obtain⟨b,⟨t,f⟩,d,e⟩:=a;obtain⟨p,j,k,l,m⟩:=o;unfold da;by_cases g:b=1
 ·subst g;exact wW n t f d e B w j k c
 by_cases h:b=2
 ·subst h;exact uo n t f d e m l B w k c
 by_cases i:b=3
 ·subst i;exact wV n t f d e B w j c
 ·simp only[g,h,i,if_false];exact wX n b (by simpa using g) (by simpa using h) (by simpa using i) t f d e B w c
end Go.Proofs.YtmbjgiaebneodaaGreat
