/- What is proved here: plain facts and contracts that the claimed theorem stands on. No condition but those that each names. -/
import Derived.Test.YtckamaoibonjcaaGreatG18
namespace Go.Proofs.YtckamaoibonjcaaGreat
open Go.RowKit
set_option maxHeartbeats 2000000
set_option maxRecDepth 100000
def oy(ws:List Wd):Nat->Wd->List Nat
 | 0,_=> []
 | n+1,v=>if v.1=4 then
    match ws[v.2.toNat]? with
    | some a=>v.2.toNat::(cg ws v.2.toNat a.2.toNat).flatMap (oy ws n)
    | none=> []
  else []
theorem lV{ws:List Wd}{n:Nat}{v:Wd}(a:v.1≠4):oy ws n v=[]:=by
 cases n with
 | zero=>rfl
 | succ n=>simp[oy,a]
theorem qQ{ws:List Wd}{n p m:Nat}(a:ws[p]?=some (0,(m:Int))):oy ws (n+1) (4,(p:Int))=p::(cg ws p m).flatMap (oy ws n):=by
 simp[oy,a]
theorem wE{nm:List ByteArray}{s:ByteArray}(a:s∈nm):ew nm s=nm:=by
 unfold ew;rw[if_pos ((yq nm s).2 a)]
theorem zR{ws:List Wd}{nm:List ByteArray}{n:Nat}(ih:∀(x:Tm n)(v:Wd)(S:List Wd×cU),dB ws nm n x v->(oy ws n v).Nodup->(∀p∈oy ws n v,look S.2 p=none)->((jv ws n v S).1=(aU n x S.1 nm).1/\(jv ws n v S).2.1=(aU n x S.1 nm).2.1/\(aU n x S.1 nm).2.2=nm)/\∀p,look (jv ws n v S).2.2 p=none ↔ look S.2 p=none/\p∉oy ws n v):(us:List Wd)->(ys:List (Tm n))->gt ws nm n us ys->(S:List Wd×cU)->(us.flatMap (oy ws n)).Nodup->(∀p∈us.flatMap (oy ws n),look S.2 p=none)-> ((gE (jv ws n) us S).1=(bF (aU n) ys S.1 nm).1/\(gE (jv ws n) us S).2.1=(bF (aU n) ys S.1 nm).2.1/\(bF (aU n) ys S.1 nm).2.2=nm)/\∀p,look (gE (jv ws n) us S).2.2 p=none ↔ look S.2 p=none/\p∉us.flatMap (oy ws n)
 | us,ys,a,S,hn,hl=>by
  induction us generalizing ys S with
  | nil=>
   obtain rfl:ys=[]:=by have:=a.1;cases ys with|nil=>rfl|cons e l=>simp at this
   simp[gE,bF]
  | cons v us z=>
   cases ys with
   | nil=>have:=a.1;simp at this
   | cons d ys=>
    have r:dB ws nm n d v:=a.2 0 v d (by simp) (by simp);have w:gt ws nm n us ys:=⟨by have:=a.1;simpa using this,λy e b s t=>a.2 (y+1) e b (by simpa using s) (by simpa using t)⟩;rw[bB]at hn hl;obtain⟨A,B,C⟩:=eI.1 hn;obtain⟨⟨g,h,i⟩,f⟩:=ih d v S r A (λp c=>hl p (mr _ c));have u:∀p∈us.flatMap (oy ws n),look (jv ws n v S).2.2 p=none:=λp c=>(f p).2 ⟨hl p (List.mem_append_right _ c),λq=>C p q p c rfl⟩;obtain⟨⟨j,k,m⟩,o⟩:=z ys w (jv ws n v S).2 B u;simp only[gE,bF];rw[i,<-h];refine⟨⟨by rw[g,j],k,m⟩,λp=>?_⟩;rw[o p,f p,bB,cR,not_or,and_assoc]
theorem D5{ws:List Wd}{nm:List ByteArray}(g:nm.Nodup):(n:Nat)->(x:Tm n)->(v:Wd)->(S:List Wd×cU)->dB ws nm n x v->(oy ws n v).Nodup->(∀p∈oy ws n v,look S.2 p=none)-> ((jv ws n v S).1=(aU n x S.1 nm).1/\(jv ws n v S).2.1=(aU n x S.1 nm).2.1/\(aU n x S.1 nm).2.2=nm)/\∀p,look (jv ws n v S).2.2 p=none ↔ look S.2 p=none/\p∉oy ws n v
 | 0,_,_,_,h,_,_=>h.elim
 | n+1,x,v,S,h,hn,hl=>by
  by_cases b:x.1.1=4
  ·obtain⟨p,rfl,i,u,s⟩:=jg h b;rw[qQ i]at hn hl ⊢;have o:=hl p (by simp);rw[xR o i];have r:=kp.1 hn;obtain⟨⟨k,f,l⟩,m⟩:=zR (λx v S=>D5 g n x v S) (cg ws p x.2.2.length) x.2.2 s S r.2 (λq c=>hl q (bI _ c));have e:aU (n+1) x S.1 nm=((4,((bF (aU n) x.2.2 S.1 nm).2.1.length:Int)),(bF (aU n) x.2.2 S.1 nm).2.1++(0,(x.2.2.length:Int))::(bF (aU n) x.2.2 S.1 nm).1,(bF (aU n) x.2.2 S.1 nm).2.2):=by
    simp only[aU];rw[if_neg (by omega),if_pos b]
   rw[e];refine⟨⟨by rw[f],by rw[k,f],l⟩,λq=>?_⟩;by_cases c:q=p
   ·subst c;rw[rM];simp
   ·rw[pL _ _ c,m q];simp[c]
  ·have j:=iz h b;rw[tX j,lV j];refine⟨⟨?_,?_,?_⟩,λq=>by simp⟩
   ·simp only[aU];by_cases a:x.1.1=2
    ·rw[if_pos a];obtain⟨t,rfl,d⟩:=h.1 a;rw[wE (aG d),AK g d]
    ·rw[if_neg a,if_neg b];exact h.2.2 a b
   ·simp only[aU];split
    ·rfl
    ·rfl
   ·simp only[aU];split
    ·rename_i a;obtain⟨t,rfl,d⟩:=h.1 a;exact wE (aG d)
    ·rfl
theorem C0{ws a:List Wd}(b:ws <+:a){p m:Nat}(c:p+1+m<=ws.length):cg a p m=cg ws p m:=by
 obtain⟨t,rfl⟩:=b;unfold cg;rw[oH (by omega),jq (by rw[eH];omega)]
theorem Lp{ws b:List Wd}(c:ws <+:b){p:Nat}{v:Wd}(a:ws[p]?=some v):b[p]?=some v:=by
 obtain⟨t,rfl⟩:=c;rw[dk (aR.1 a).1];exact a
theorem mK{c e:Type}{f g:c->List e}:{l:List c}->(∀a∈l,f a=g a)->l.flatMap f=l.flatMap g
 | [],_=>rfl
 | a::l,h=>by rw[bB,bB,h a (by simp),mK (l:=l) λb d=>h b (by simp[d])]
theorem qP{ws d:List Wd}{nm:List ByteArray}(b:ws <+:d):(n:Nat)->(x:Tm n)->(v:Wd)->dB ws nm n x v->oy d n v=oy ws n v
 | 0,_,_,h=>h.elim
 | n+1,x,v,h=>by
  by_cases a:x.1.1=4
  ·obtain⟨p,rfl,c,e,f⟩:=jg h a;rw[qQ c,qQ (Lp b c),C0 b e];congr 1;refine mK λj g=>?_;obtain⟨y,_,i⟩:=f.mem g;exact qP b n y j i
  ·rw[lV (iz h a),lV (iz h a)]
theorem yw{ws:List Wd}{nm:List ByteArray}:(n:Nat)->(x:Tm n)->(v:Wd)->dB ws nm n x v->∀p∈oy ws n v,p<ws.length
 | 0,_,_,h,_,_=>h.elim
 | n+1,x,v,h,q,a=>by
  by_cases b:x.1.1=4
  ·obtain⟨p,rfl,c,i,d⟩:=jg h b;rw[qQ c,ch,jn]at a;rcases a with rfl|⟨g,e,a⟩
   ·omega
   ·obtain⟨y,_,f⟩:=d.mem e;exact yw n y g f q a
  ·rw[lV (iz h b)]at a;cases a
theorem ut{n:Nat}(ih:∀(x:Tm n)(ws:List Wd)(nm:List ByteArray),az ⟨n,x⟩->(oy (aU n x ws nm).2.1 n (aU n x ws nm).1).Nodup/\∀p∈oy (aU n x ws nm).2.1 n (aU n x ws nm).1,ws.length<=p):(l:List (Tm n))->(ws:List Wd)->(nm:List ByteArray)->(∀y∈l,az ⟨n,y⟩)->((bF (aU n) l ws nm).1.flatMap (oy (bF (aU n) l ws nm).2.1 n)).Nodup/\∀p∈(bF (aU n) l ws nm).1.flatMap (oy (bF (aU n) l ws nm).2.1 n),ws.length<=p
 | [],_,_,_=>by simp[bF]
 | y::l,ws,nm,hr=>by
  have f:=ih y ws nm (hr y (by simp));have g:=gF n y ws nm (hr y (by simp));have d:=ut ih l (aU n y ws nm).2.1 (aU n y ws nm).2.2 (λo m=>hr o (by simp[m]));have c:=(qD (λx ws nm=>lP n x ws nm) l (aU n y ws nm).2.1 (aU n y ws nm).2.2).1;have k:=qP c n y _ g;have j:=yw n y _ g;have q:=(lP n y ws nm).1.length_le;simp only[bF,bB];rw[k];refine⟨eI.2 ⟨f.1,d.1,λa h b i e=>?_⟩,λp c=>?_⟩
  ·have:=j a h;have:=d.2 b i;omega
  ·rcases cR.1 c with c|c
   ·exact f.2 p c
   ·have:=d.2 p c;omega
theorem yg:(n:Nat)->(x:Tm n)->(ws:List Wd)->(nm:List ByteArray)->az ⟨n,x⟩->(oy (aU n x ws nm).2.1 n (aU n x ws nm).1).Nodup/\∀p∈oy (aU n x ws nm).2.1 n (aU n x ws nm).1,ws.length<=p
 | 0,_,_,_,h=>(dd h).elim
 | n+1,x,ws,nm,h=>by
  by_cases q:x.1.1=4
  ·have e:aU (n+1) x ws nm=((4,((bF (aU n) x.2.2 ws nm).2.1.length:Int)),(bF (aU n) x.2.2 ws nm).2.1++(0,(x.2.2.length:Int))::(bF (aU n) x.2.2 ws nm).1,(bF (aU n) x.2.2 ws nm).2.2):=by
     simp only[aU];rw[if_neg (by omega),if_pos q]
   have r:∀o∈x.2.2,az ⟨n,o⟩:=λo B=>aT n x o h B;have k:=ut (λx ws nm l=>yg n x ws nm l) x.2.2 ws nm r;have A:=(qD (λx ws nm=>lP n x ws nm) x.2.2 ws nm).1.length_le;have s:=nF (λx ws nm l=>gF n x ws nm l) x.2.2 ws nm r;have v:=gG (aU n) x.2.2 ws nm;rw[e];generalize (bF (aU n) x.2.2 ws nm).2.1=c at*;generalize (bF (aU n) x.2.2 ws nm).1=d at*;generalize (bF (aU n) x.2.2 ws nm).2.2=D at*;have t:(c++(0,(x.2.2.length:Int))::d)[c.length]?=some (0,(x.2.2.length:Int)):=by simp
   have z:cg (c++(0,(x.2.2.length:Int))::d) c.length x.2.2.length=d:=by rw[<-v];exact F9 (gi _)
   have y:d.flatMap (oy (c++(0,(x.2.2.length:Int))::d) n)=d.flatMap (oy c n):=mK λm j=>by
    obtain⟨i,f⟩:=cO j;have u:=(aR.1 f).1;obtain⟨C,b,g⟩:=s i (x.2.2[i]'(by omega)) (aH _);rw[f]at b;injection b with b;subst b;exact qP (oM _ _) n _ m g
   have w:∀p∈d.flatMap (oy c n),p<c.length:=λp a=>by
    obtain⟨m,j,a⟩:=jn.1 a;obtain⟨i,f⟩:=cO j;have u:=(aR.1 f).1;obtain⟨C,b,g⟩:=s i (x.2.2[i]'(by omega)) (aH _);rw[f]at b;injection b with b;subst b;exact yw n _ m g p a
   simp only;rw[qQ t,z,y];refine⟨kp.2 ⟨λa=>by have:=w _ a;omega,k.1⟩,λp a=>?_⟩;rcases ch.1 a with rfl|a
   ·exact A
   ·exact k.2 p a
  ·have g:=gF (n+1) x ws nm h;rw[lV (iz g q)];simp
theorem Ay(n:Nat):(l:List (Tm n))->(ws:List Wd)->(nm:List ByteArray)->((bF (aU n) l ws nm).2.1.length:Int)=ws.length+(l.map (sz n)).sum
 | [],_,_=>by simp[bF]
 | y::l,ws,nm=>by
  have a:=(iy n y ws nm).1;have b:=Ay n l (aU n y ws nm).2.1 (aU n y ws nm).2.2;simp only[bF,aK,bv];omega
theorem Db{ws:List Wd}{nm:List ByteArray}(d:nm.Nodup){n:Nat}{vs:List Wd}{p:List (Tm n)}(b:gt ws nm n vs p)(c:(vs.flatMap (oy ws n)).Nodup):(jz ws n vs).1=(bF (aU n) p [] nm).1/\(jz ws n vs).2.1=(bF (aU n) p [] nm).2.1/\(bF (aU n) p [] nm).2.2=nm:=
 (zR (λf e a=>D5 d n f e a) vs p b ([],[]) c (λ_ _=>rfl)).1
def nn:ByteArray:=⟨#[99,111,100,101]⟩
def te:ByteArray:=⟨#[98,101,104]⟩
def Ki:ByteArray:=⟨#[111,110]⟩
def l9:ByteArray:=⟨#[115,101,110,100]⟩
def iJ:ByteArray:=⟨#[115,112,97,119,110]⟩
def l7:ByteArray:=⟨#[108,105,110,107]⟩
def lk:ByteArray:=⟨#[115,116,111,112]⟩
def eD(n:Nat)(x:Tm n):Bool:=(gd n x).1.1==0 && (gd n x).1.2.1==0 && (gd n x).1.2.2.toList.isEmpty && ((gd n x).2.2.1:Int)==0
def vA(s:ByteArray)(v:Int):Bool:=s.toList.isEmpty && v==0
def nr(n:Nat)(a:Ac n):Bool:=
 if a.1=1 then vA a.2.2.1 a.2.2.2
 else if a.1=2 then eD n a.2.1.1 && dG a.2.2.1 && decide (0<=a.2.2.2) && decide (a.2.2.2<4)
 else if a.1=3 then eD n a.2.1.2 && vA a.2.2.1 a.2.2.2
 else if a.1=4 then eD n a.2.1.1 && eD n a.2.1.2 && vA a.2.2.1 a.2.2.2
 else false
def sQ(n:Nat)(c:Cl n):Bool:=decide ((c.2.2.length:Int)<=8) && c.2.2.all (nr n)
def vv(n:Nat)(b:Bh n):Bool:=dG b.1 && decide (1<=(b.2.2.length:Int)) && decide ((b.2.2.length:Int)<=6) && b.2.2.all (sQ n)
def jY(n:Nat)(l:List (Bh n)):Bool:=decide (1<=(l.length:Int)) && decide ((l.length:Int)<=7) && l.all (vv n)
def aY(s:ByteArray)(N:Nat):Tm (N+1):=((2,0,s),(none,0),[])
def bY(n:Nat)(a:Ac (n+1)):Tm (n+2):=
 if a.1=1 then cX (n+1) [aY l9 n,a.2.1.1,a.2.1.2]
 else if a.1=2 then cX (n+1) [aY iJ n,aY a.2.2.1 n,a.2.1.2,bK 5 a.2.2.2 n]
 else if a.1=3 then cX (n+1) [aY l7 n,a.2.1.1]
 else cX (n+1) [aY lk n]
def dw(n:Nat)(c:Cl (n+1)):Tm (n+4):=
 cX (n+3) [aY Ki (n+2),aO (n+3) (n+1) c.1.1,aO (n+3) (n+1) c.1.2.1,cX (n+2) (c.2.2.map (bY n)),aO (n+3) (n+1) c.1.2.2]
def dF(n:Nat)(b:Bh (n+1)):Tm (n+5):=cX (n+4) (aY te (n+3)::aY b.1 (n+3)::b.2.2.map (dw n))
def bW(n:Nat)(l:List (Bh (n+1))):Tm (n+6):=cX (n+5) (aY nn (n+4)::l.map (dF n))
def eA{a b:Type}(R:a->b->Prop)(l:List a)(r:List b):Prop:=l.length=r.length/\∀(i:Nat)(x:a)(y:b),l[i]?=some x->r[i]?=some y->R x y
theorem eA.nil{b c:Type}{R:b->c->Prop}:eA R [] []:=⟨rfl,λi x y a=>by simp at a⟩
theorem eA.snoc{g h:Type}{R:g->h->Prop}{l:List g}{r:List h}(d:eA R l r){x:g}{y:h}(k:R x y):eA R (l++ [x]) (r++ [y]):=by
 refine⟨by simp[d.1],λf j b a c=>?_⟩;by_cases i:f<l.length
 ·rw[dk i]at a;rw[dk (by rw[<-d.1];exact i)]at c;exact d.2 f j b a c
 ·rw[ei (by omega)]at a;rw[ei (by rw[<-d.1];omega)]at c;have e:f-l.length=0:=by
   by_cases e:f-l.length=0
   ·exact e
   ·rw[ek (by simp;omega)]at a;cases a
  rw[<-d.1,e]at c;rw[e]at a;simp at a c;rw[<-a,<-c];exact k
theorem eA.tail{c d:Type}{R:c->d->Prop}{x:c}{y:d}{l:List c}{r:List d}(a:eA R (x::l) (y::r)):R x y/\eA R l r:=
 ⟨a.2 0 x y (by simp) (by simp),by simpa using a.1,λh e b f g=>a.2 (h+1) e b (by simpa using f) (by simpa using g)⟩
theorem eA.all{a b:Type}{R:a->b->Prop}(f:a->Bool)(g:b->Bool)(c:∀x y,R x y->f x=g y):(l:List a)->(r:List b)->eA R l r->l.all f=r.all g
 | [],[],_=>rfl
 | [],_::_,h=>by have:=h.1;simp at this
 | _::_,[],h=>by have:=h.1;simp at this
 | x::l,y::r,h=>by
  simp only[iO,c x y h.tail.1,eA.all f g c l r h.tail.2]
theorem eA.same{c d:Type}{R:c->d->Prop}{n m:Nat}(f:c->Tm n)(g:d->Tm m)(e:∀x y,R x y->ax n (f x) m (g y)=true):(l:List c)->(r:List d)->eA R l r->aC (λa b=>ax n a m b) (l.map f) (r.map g)=true
 | [],[],_=>rfl
 | [],_::_,h=>by have:=h.1;simp at this
 | _::_,[],h=>by have:=h.1;simp at this
 | x::l,y::r,h=>by
  simp only[aK,aC,aA];exact⟨e x y h.tail.1,eA.same f g e l r h.tail.2⟩
def B4(n:Nat)(a b:Ac n):Prop:=a.1=b.1/\ax n a.2.1.1 n b.2.1.1=true/\ax n a.2.1.2 n b.2.1.2=true/\a.2.2=b.2.2
def BU(n:Nat)(a b:Cl n):Prop:=(ax n a.1.1 n b.1.1=true/\ax n a.1.2.1 n b.1.2.1=true/\ax n a.1.2.2 n b.1.2.2=true)/\eA (B4 n) a.2.2 b.2.2
def xD(n:Nat)(a b:Bh n):Prop:=a.1=b.1/\eA (BU n) a.2.2 b.2.2
theorem EB{n m:Nat}{x:Tm n}{y:Tm m}(a:ax n x m y=true):(gd n x).1=(gd m y).1/\(gd n x).2.2.1=(gd m y).2.2.1:=by
 cases n with
 | zero=>simp[ax]at a
 | succ n=>
  cases m with
  | zero=>simp[ax]at a
  | succ m=>
   have b:=bD a;have c:=cD _ _ _ b.2;simp only[gd,bA];exact⟨b.1,c⟩
theorem qS{n m:Nat}{x:Tm n}{y:Tm m}(b:ax n x m y=true):eD n x=eD m y:=by
 have a:=EB b;simp only[eD,a.1,a.2]
theorem NH{n:Nat}{a b:Ac n}(c:B4 n a b):nr n a=nr n b:=by
 obtain⟨d,e,f,g⟩:=c;simp only[nr,d,g,qS e,qS f]
theorem NJ{n:Nat}{a b:Cl n}(c:BU n a b):sQ n a=sQ n b:=by
 simp only[sQ,c.2.1,eA.all (R:=B4 n) (nr n) (nr n) (λ_ _ c=>NH c) _ _ c.2]
theorem NI{n:Nat}{a b:Bh n}(c:xD n a b):vv n a=vv n b:=by
 simp only[vv,c.1,c.2.1,eA.all (R:=BU n) (sQ n) (sQ n) (λ_ _ c=>NJ c) _ _ c.2]
theorem Jc{n:Nat}{l r:List (Bh n)}(a:eA (xD n) l r):jY n l=jY n r:=by
 simp only[jY,a.1,eA.all (R:=xD n) (vv n) (vv n) (λ_ _ a=>NI a) _ _ a]
theorem dM(s:ByteArray)(N M:Nat):ax (N+1) (aY s N) (M+1) (aY s M)=true:=da rfl rfl
theorem CH(k a:Int)(N M:Nat):ax (N+1) (bK k a N) (M+1) (bK k a M)=true:=da rfl rfl
theorem gJ{N M:Nat}{l:List (Tm N)}{r:List (Tm M)}(c:aC (λa b=>ax N a M b) l r=true):ax (N+1) (cX N l) (M+1) (cX M r)=true:=da rfl c
theorem lQ:(N n:Nat)->n<=N->(x:Tm n)->ax n x n x=true->ax N (aO N n x) n x=true
 | _,0,_,_,h=>by simp[ax]at h
 | 0,n+1,h,_,_=>by omega
 | N+1,n+1,h,x,hr=>by
  have b:=(bD hr).2;refine da rfl (iD _ _ _ λy c=>lQ N n (by omega) y ?_);obtain⟨i,a⟩:=cO c;exact je _ _ _ b i y y a a
theorem wU{n m:Nat}{x:Tm n}{y:Tm m}(a:ax n x m y=true):ax n x n x=true:=bQ _ _ _ _ _ _ a (dK _ _ _ _ a)
theorem Dd{n m:Nat}{x:Tm n}{y:Tm m}(a:ax n x m y=true):ax m y m y=true:=bQ _ _ _ _ _ _ (dK _ _ _ _ a) a
theorem om{N n m:Nat}(c:n<=N)(b:m<=N){x:Tm n}{y:Tm m}(a:ax n x m y=true):ax N (aO N n x) N (aO N m y)=true:=
 bQ _ _ _ _ _ _ (lQ N n c x (wU a)) (bQ _ _ _ _ _ _ a (dK _ _ _ _ (lQ N m b y (Dd a))))
theorem ld{B:Nat}{w:World}:{n:Nat}->{x:Tm n}->In B w n x->ax n x n x=true
 | 0,_,k=>k.elim
 | n+1,x,k=>by
  refine da rfl (iE _ _ λy a=>?_);obtain⟨i,c⟩:=cO a;rcases k.2 with e|⟨b,o,_,_,d⟩
  ·rw[e]at a;cases a
  ·exact ld (d i y c).2
theorem Hd{n:Nat}{a b:Ac (n+1)}(e:B4 (n+1) a b):ax (n+2) (bY n a) (n+2) (bY n b)=true:=by
 obtain⟨f,c,d,g⟩:=e;unfold bY;rw[f,g];split
 ·exact gJ (by simp[aC,dM,c,d])
 split
 ·exact gJ (by simp[aC,dM,CH,d])
 split
 ·exact gJ (by simp[aC,dM,c])
 ·exact gJ (by simp[aC,dM])
theorem Hs{n:Nat}{a b:Cl (n+1)}(c:BU (n+1) a b):ax (n+4) (dw n a) (n+4) (dw n b)=true:=by
 have d:=eA.same (bY n) (bY n) (λ_ _ c=>Hd c) _ _ c.2;exact gJ (by simp only[aC,aA];exact⟨dM _ _ _,om (by omega) (by omega) c.1.1,om (by omega) (by omega) c.1.2.1,gJ d,om (by omega) (by omega) c.1.2.2,trivial⟩)
theorem Hi{n:Nat}{a b:Bh (n+1)}(c:xD (n+1) a b):ax (n+5) (dF n a) (n+5) (dF n b)=true:=by
 have d:=eA.same (dw n) (dw n) (λ_ _ c=>Hs c) _ _ c.2;refine gJ ?_;simp only[aC,aA];exact⟨dM _ _ _,by rw[c.1];exact dM _ _ _,d⟩
theorem Jd{n:Nat}{l r:List (Bh (n+1))}(a:eA (xD (n+1)) l r):ax (n+6) (bW n l) (n+6) (bW n r)=true:=by
 have b:=eA.same (dF n) (dF n) (λ_ _ a=>Hi a) _ _ a;refine gJ ?_;simp only[aC,aA];exact⟨dM _ _ _,b⟩
theorem dv(k b:Int)(s:ByteArray)(a:Option Addr)(l c:Nat)(w:World):am 168 #[.agg #[ab k,ab b,af s,ae a l c]] w λe w'=>e=.returned (.bool (k==0 && b==0 && s.toList.isEmpty && (l:Int)==0))/\w'=w.alloc (.cells #[ab k,ab b,af s,ae a l c] 30):=by
 cases h1:k==0
 ·go_enter Tryz.func168,Tryz.ntmps168;go_wp2_with fail
  go_ret
  exact⟨rfl,rfl⟩
 cases h2:b==0
 ·go_enter Tryz.func168,Tryz.ntmps168;go_wp2_with fail
  go_ret
  exact⟨rfl,rfl⟩
 cases h3:s.toList.isEmpty
 ·go_enter Tryz.func168,Tryz.ntmps168;go_wp2_with fail
  go_ret
  exact⟨rfl,rfl⟩
 go_enter Tryz.func168,Tryz.ntmps168;go_wp2_with fail
 go_ret
 exact⟨rfl,rfl⟩
theorem pU(K a t1 f g v:Int)(t2 h s:ByteArray)(b i:Option Addr)(c d j k:Nat)(w:World):am 167 #[.agg #[ab K,ab a,ab t1,af t2,ae b c d,ab f,ab g,af h,ae i j k,af s,ab v]] w λe w'=>e=.returned (.bool (vA s v))/\w'=w.alloc (.cells #[ab K,ab a,ab t1,af t2,ae b c d,ab f,ab g,af h,ae i j k,af s,ab v] 224):=by
 unfold vA;cases h3:s.toList.isEmpty
 ·go_enter Tryz.func167,Tryz.ntmps167;go_wp2_with fail
  go_ret
  exact⟨rfl,rfl⟩
 go_enter Tryz.func167,Tryz.ntmps167;go_wp2_with fail
 go_ret
 exact⟨rfl,rfl⟩
theorem CC(K o t1 q r v:Int)(t2 t s:ByteArray)(x z:Option Addr)(p y u A:Nat)(w:World)(m:s.size<=9223372036854775807)(h i l n:Bool)(a:Hid ((o==0 && t1==0 && t2.toList.isEmpty && (p:Int)==0)=h))(d:Hid ((q==0 && r==0 && t.toList.isEmpty && (u:Int)==0)=i))(j:Hid (vA s v=l))(f:Hid (dG s=n)):am 154 #[.agg #[ab K,ab o,ab t1,af t2,ae x p y,ab q,ab r,af t,ae z u A,af s,ab v]] w λe w'=>e=.returned (.bool (if K=1 then l else if K=2 then h && n && decide (0<=v) && decide (v<4)else if K=3 then i && l else if K=4 then h && i && l else false))/\aj w w':=by
 by_cases b:K=1
 ·subst b;rw[if_pos rfl];go_enter Tryz.func154,Tryz.ntmps154;go_wp2_with (go_at_call 167;refine(pU _ _ _ _ _ _ _ _ _ _ _ _ _ _ _ _).mono ?_;rintro e w' ⟨rfl,rfl⟩;rw[j.out])
  go_ret
  exact⟨rfl,by go_grown⟩
 rw[if_neg b];by_cases c:K=2
 ·subst c;rw[if_pos rfl];clear d j b;cases h
  ·go_enter Tryz.func154,Tryz.ntmps154;go_wp2_with (go_at_call 168;refine(dv _ _ _ _ _ _ _).mono ?_;rintro e w' ⟨rfl,rfl⟩;rw[a.out])
   go_ret
   exact⟨rfl,by go_grown⟩
  cases n
  ·go_enter Tryz.func154,Tryz.ntmps154;go_wp2_with (first|(go_at_call 168;refine(dv _ _ _ _ _ _ _).mono ?_;rintro e w' ⟨rfl,rfl⟩;rw[a.out])|(go_at_call 64;refine(iw _ _ m).mono ?_;rintro e w' ⟨rfl,rfl⟩;rw[f.out]))
   go_ret
   exact⟨rfl,by go_grown⟩
  cases hv:decide (0<=v)
  ·go_enter Tryz.func154,Tryz.ntmps154;go_wp2_with (first|(go_at_call 168;refine(dv _ _ _ _ _ _ _).mono ?_;rintro e w' ⟨rfl,rfl⟩;rw[a.out])|(go_at_call 64;refine(iw _ _ m).mono ?_;rintro e w' ⟨rfl,rfl⟩;rw[f.out]))
   go_ret
   exact⟨rfl,by go_grown⟩
  ·go_enter Tryz.func154,Tryz.ntmps154;go_wp2_with (first|(go_at_call 168;refine(dv _ _ _ _ _ _ _).mono ?_;rintro e w' ⟨rfl,rfl⟩;rw[a.out])|(go_at_call 64;refine(iw _ _ m).mono ?_;rintro e w' ⟨rfl,rfl⟩;rw[f.out]))
   go_ret
   exact⟨rfl,by go_grown⟩
 rw[if_neg c];by_cases g:K=3
 ·subst g;rw[if_pos rfl];clear a f b c;cases i
  ·go_enter Tryz.func154,Tryz.ntmps154;go_wp2_with (go_at_call 168;refine(dv _ _ _ _ _ _ _).mono ?_;rintro e w' ⟨rfl,rfl⟩;rw[d.out])
   go_ret
   exact⟨rfl,by go_grown⟩
  ·go_enter Tryz.func154,Tryz.ntmps154;go_wp2_with (first|(go_at_call 168;refine(dv _ _ _ _ _ _ _).mono ?_;rintro e w' ⟨rfl,rfl⟩;rw[d.out])|(go_at_call 167;refine(pU _ _ _ _ _ _ _ _ _ _ _ _ _ _ _ _).mono ?_;rintro e w' ⟨rfl,rfl⟩;rw[j.out]))
   go_ret
   exact⟨rfl,by go_grown⟩
 rw[if_neg g];by_cases k:K=4
 ·subst k;rw[if_pos rfl];clear f b c g;cases h
  ·go_enter Tryz.func154,Tryz.ntmps154;go_wp2_with (go_at_call 168;refine(dv _ _ _ _ _ _ _).mono ?_;rintro e w' ⟨rfl,rfl⟩;rw[a.out])
   go_ret
   exact⟨rfl,by go_grown⟩
  cases i
  ·go_enter Tryz.func154,Tryz.ntmps154;go_wp2_with (go_at_call 168;refine(dv _ _ _ _ _ _ _).mono ?_;rintro e w' ⟨rfl,rfl⟩;first|rw[a.out]|rw[d.out])
   go_ret
   exact⟨rfl,by go_grown⟩
  ·go_enter Tryz.func154,Tryz.ntmps154;go_wp2_with (first|(go_at_call 168;refine(dv _ _ _ _ _ _ _).mono ?_;rintro e w' ⟨rfl,rfl⟩;first|rw[a.out]|rw[d.out])|(go_at_call 167;refine(pU _ _ _ _ _ _ _ _ _ _ _ _ _ _ _ _).mono ?_;rintro e w' ⟨rfl,rfl⟩;rw[j.out]))
   go_ret
   exact⟨rfl,by go_grown⟩
 rw[if_neg k];have B:(K==1)=false:=by simpa using b
 have C:(K==2)=false:=by simpa using c
 have D:(K==3)=false:=by simpa using g
 have E:(K==4)=false:=by simpa using k
 clear b c g k;go_enter Tryz.func154,Tryz.ntmps154;go_wp2_with fail
 go_ret
 exact⟨rfl,by go_grown⟩
theorem FA(n:Nat)(a:Ac (n+1))(w:World)(b:a.2.2.1.size<=maxLen):am 154 #[.agg (fW (n+1) a).toArray] w λe w'=>e=.returned (.bool (nr (n+1) a))/\aj w w':=by
 unfold maxLen at b;exact CC a.1 _ _ _ _ _ _ _ _ _ _ _ _ _ _ w (by omega) _ _ _ _ rfl rfl rfl rfl
def Mf(n:Nat)(w:World)(b o:Nat)(x:Ac (n+1)):Prop:=
 w.cell? ⟨b,o,none⟩=some (ab x.1)/\
 (w.cell? ⟨b,o+1,none⟩=some (ab x.2.1.1.1.1)/\w.cell? ⟨b,o+2,none⟩=some (ab x.2.1.1.1.2.1)/\w.cell? ⟨b,o+3,none⟩=some (af x.2.1.1.1.2.2)/\w.cell? ⟨b,o+4,none⟩=some (ae x.2.1.1.2.1.1 x.2.1.1.2.2.length x.2.1.1.2.1.2))/\
 (w.cell? ⟨b,o+5,none⟩=some (ab x.2.1.2.1.1)/\w.cell? ⟨b,o+6,none⟩=some (ab x.2.1.2.1.2.1)/\w.cell? ⟨b,o+7,none⟩=some (af x.2.1.2.1.2.2)/\w.cell? ⟨b,o+8,none⟩=some (ae x.2.1.2.2.1.1 x.2.1.2.2.2.length x.2.1.2.2.1.2))/\
 w.cell? ⟨b,o+9,none⟩=some (af x.2.2.1)/\w.cell? ⟨b,o+10,none⟩=some (ab x.2.2.2)
def Mk(n:Nat)(w:World)(b o:Nat)(x:Cl (n+1)):Prop:=
 (w.cell? ⟨b,o,none⟩=some (ab x.1.1.1.1)/\w.cell? ⟨b,o+1,none⟩=some (ab x.1.1.1.2.1)/\w.cell? ⟨b,o+2,none⟩=some (af x.1.1.1.2.2)/\w.cell? ⟨b,o+3,none⟩=some (ae x.1.1.2.1.1 x.1.1.2.2.length x.1.1.2.1.2))/\
 (w.cell? ⟨b,o+4,none⟩=some (ab x.1.2.1.1.1)/\w.cell? ⟨b,o+5,none⟩=some (ab x.1.2.1.1.2.1)/\w.cell? ⟨b,o+6,none⟩=some (af x.1.2.1.1.2.2)/\w.cell? ⟨b,o+7,none⟩=some (ae x.1.2.1.2.1.1 x.1.2.1.2.2.length x.1.2.1.2.1.2))/\
 w.cell? ⟨b,o+8,none⟩=some (ae x.2.1.1 x.2.2.length x.2.1.2)/\
 (w.cell? ⟨b,o+9,none⟩=some (ab x.1.2.2.1.1)/\w.cell? ⟨b,o+10,none⟩=some (ab x.1.2.2.1.2.1)/\w.cell? ⟨b,o+11,none⟩=some (af x.1.2.2.1.2.2)/\w.cell? ⟨b,o+12,none⟩=some (ae x.1.2.2.2.1.1 x.1.2.2.2.2.length x.1.2.2.2.1.2))
theorem px.ac{n B:Nat}{w:World}{e:Ac (n+1)->Prop}{a:Option Addr}{p:List (Ac (n+1))}(d:px B w 11 (fW (n+1)) e a p)(k:Nat)(x:Ac (n+1))(f:p[k]?=some x):∃b o,a=some ⟨b,o,none⟩/\b<B/\Mf n w b (o+k*11) x/\e x:=by
 rcases d with d|⟨b,o,g,i,d⟩
 ·subst d;simp at f
 ·obtain⟨c,h⟩:=d k x f;exact⟨b,o,g,i,⟨c 0 _ rfl,⟨c 1 _ rfl,c 2 _ rfl,c 3 _ rfl,c 4 _ rfl⟩,⟨c 5 _ rfl,c 6 _ rfl,c 7 _ rfl,c 8 _ rfl⟩,c 9 _ rfl,c 10 _ rfl⟩,h⟩
theorem px.cl{n B:Nat}{w:World}{e:Cl (n+1)->Prop}{a:Option Addr}{p:List (Cl (n+1))}(d:px B w 13 (eK (n+1)) e a p)(k:Nat)(x:Cl (n+1))(f:p[k]?=some x):∃b o,a=some ⟨b,o,none⟩/\b<B/\Mk n w b (o+k*13) x/\e x:=by
 rcases d with d|⟨b,o,g,i,d⟩
 ·subst d;simp at f
 ·obtain⟨c,h⟩:=d k x f;exact⟨b,o,g,i,⟨⟨c 0 _ rfl,c 1 _ rfl,c 2 _ rfl,c 3 _ rfl⟩,⟨c 4 _ rfl,c 5 _ rfl,c 6 _ rfl,c 7 _ rfl⟩,c 8 _ rfl,c 9 _ rfl,c 10 _ rfl,c 11 _ rfl,c 12 _ rfl⟩,h⟩
theorem px.bh{n B:Nat}{w:World}{d:Bh (n+1)->Prop}{a:Option Addr}{p:List (Bh (n+1))}(c:px B w 2 (oW (n+1)) d a p)(k:Nat)(x:Bh (n+1))(f:p[k]?=some x):∃b o,a=some ⟨b,o,none⟩/\b<B/\(w.cell? ⟨b,o+k*2,none⟩=some (af x.1)/\w.cell? ⟨b,o+k*2+1,none⟩=some (ae x.2.1.1 x.2.2.length x.2.1.2))/\d x:=by
 rcases c with c|⟨b,o,g,i,c⟩
 ·subst c;simp at f
 ·obtain⟨e,h⟩:=c k x f;exact⟨b,o,g,i,⟨e 0 _ rfl,e 1 _ rfl⟩,h⟩
theorem jX{b:Type}{c:Nat->World->b->Prop}{d:(Nat->Prop)->b->Prop}(g:jE c d){k:Nat}{f:b->List Value}{a:Option Addr}{B:Nat}{w w':World}(h:Below B w w'){l:List b}(e:px B w k f (c B w) a l):px B w' k f (c B w') a l:=(cB g k f a).below h e
theorem zw(n:Nat)(p:List (Ac (n+1)))(len:Nat)(r:Hid (p.length=len))(a:Option Addr)(pc B:Nat)(w:World)(u:Hid (px B w 11 (fW (n+1)) (ij (n+1) B w) a p))(C:len<=9223372036854775807)(s:B<=w.heap.size):am 123 #[ae a len pc] w λe w'=>e=.returned (.bool (decide ((len:Int)<=8) && p.all (nr (n+1))))/\aj w w':=by
 by_cases x:(8:Int)<len
 ·have f:decide ((len:Int)<=8)=false:=by simp;omega
  rw[f];go_enter Tryz.func123,Tryz.ntmps123;go_wp2_with fail
  go_ret
  exact⟨rfl,ap _ _⟩
 have f:decide ((len:Int)<=8)=true:=by simp;omega
 rw[f,eg];clear f;go_enter Tryz.func123,Tryz.ntmps123;go_wp2_with fail;go_loopw [10] (λj wr=>∃k:Nat,k<=len/\j=ab k/\aj w wr/\Hid ((p.drop k).all (nr (n+1))=p.all (nr (n+1)))) (λj _=>len-(intOf j).toNat)
 case atStart=>exact⟨0,by omega,rfl,ap _ _,rfl⟩
 case round=>
  obtain⟨k,y,rfl,d,h⟩:=hrel;by_cases t:k<len
  ·obtain⟨b,i⟩:∃b,p[k]?=some b:=⟨p[k]'(by rw[r.out];exact t),aH _⟩;have l:=ao (qq (nr (n+1)) p k b i);obtain⟨E,po,rfl,D,⟨F,⟨G,I,J,K⟩,⟨L,M,N,O⟩,P,H⟩,q⟩:=(jX (fq (n+1)) (d.mono s) u.out).ac k b i;have g:=λc=>ao (FA n b c q.2.2.2.1);replace g:Hid (∀c,am 154 #[.agg #[ab b.1,ab b.2.1.1.1.1,ab b.2.1.1.1.2.1,af b.2.1.1.1.2.2,ae b.2.1.1.2.1.1 b.2.1.1.2.2.length b.2.1.1.2.1.2,ab b.2.1.2.1.1,ab b.2.1.2.1.2.1,af b.2.1.2.1.2.2,ae b.2.1.2.2.1.1 b.2.1.2.2.2.length b.2.1.2.2.1.2,af b.2.2.1,ab b.2.2.2]] c λe w'=>e=.returned (.bool (nr (n+1) b))/\aj c w'):=λc=>(g c).out;clear q i;generalize nr (n+1) b=v at*;have z:(0:Int)<=(k:Int):=by omega
   have A:(k:Int)<(len:Int):=by omega
   go_wp2_with fail;refine(g.out _).mono ?_;rintro e c ⟨rfl,m⟩;have o:aj w c:=(d.trans (((ap _ _).alloc (ak _) _).mono d.size)).trans (m.mono (by have:=d.size;simp;omega));clear m;cases v with
   | true=>
    go_wp2_with fail;go_roundw
    case rel=>exact⟨k+1,by omega,by go_num,o,by rw[<-h.out,l.out];rfl⟩
    case measure=>simp[intOf];omega
   | false=>
    go_wp2_with fail
    go_ret
    exact⟨bL (by rw[<-h.out,l.out];rfl),o⟩
  ·go_wp2_with fail
   go_ret
   refine⟨bL ?_,d⟩;rw[<-h.out,jj (by rw[r.out];omega)];rfl
theorem tK(n:Nat)(p:List (Cl (n+1)))(len:Nat)(s:Hid (p.length=len))(a:Option Addr)(pc B:Nat)(w:World)(y:Hid (px B w 13 (eK (n+1)) (gO (n+1) B w) a p))(G:len<=9223372036854775807)(m:B<=w.heap.size):am 86 #[ae a len pc] w λe w'=>e=.returned (.bool (decide (1<=(len:Int)) && decide ((len:Int)<=6) && p.all (sQ (n+1))))/\aj w w':=by
 by_cases A:(len:Int)<1
 ·have v:decide (1<=(len:Int))=false:=by simp;omega
  rw[v];go_enter Tryz.func86,Tryz.ntmps86;go_wp2_with fail
  go_ret
  exact⟨rfl,ap _ _⟩
 by_cases C:(6:Int)<len
 ·have f:decide ((len:Int)<=6)=false:=by simp;omega
  rw[f];go_enter Tryz.func86,Tryz.ntmps86;go_wp2_with fail
  go_ret
  exact⟨bL (by simp),ap _ _⟩
 have f:(decide (1<=(len:Int)) && decide ((len:Int)<=6))=true:=by simp;omega
 rw[f,eg];clear f;go_enter Tryz.func86,Tryz.ntmps86;go_wp2_with fail;go_loopw [15] (λj wr=>∃k:Nat,k<=len/\j=ab k/\aj w wr/\Hid ((p.drop k).all (sQ (n+1))=p.all (sQ (n+1)))) (λj _=>len-(intOf j).toNat)
 case atStart=>exact⟨0,by omega,rfl,ap _ _,rfl⟩
 case round=>
  obtain⟨k,D,rfl,d,g⟩:=hrel;by_cases x:k<len
  ·obtain⟨b,i⟩:∃b,p[k]?=some b:=⟨p[k]'(by rw[s.out];exact x),aH _⟩;have l:=ao (qq (sQ (n+1)) p k b i);obtain⟨I,po,rfl,H,⟨⟨J,K,O,P⟩,⟨Q,R,S,T⟩,U,V,L,M,N⟩,h⟩:=(jX (dX (n+1)) (d.mono m) y.out).cl k b i;have o:B<=wr.heap.size:=ay m d.size
   have u:Hid (∀c,aj wr c->am 123 #[ae b.2.1.1 b.2.2.length b.2.1.2] c λe w'=>e=.returned (.bool (sQ (n+1) b))/\aj c w'):=
    λc t=>zw n b.2.2 b.2.2.length rfl b.2.1.1 b.2.1.2 B c (jX (fq (n+1)) (t.mono o) h.2.2) (by have:=h.2.1;unfold maxLen at this;omega) (ay o t.size)
   clear h i;generalize sQ (n+1) b=z at*;have E:(0:Int)<=(k:Int):=by omega
   have F:(k:Int)<(len:Int):=by omega
   go_wp2_with fail;refine(u.out _ ((ap _ _).alloc (ak _) _)).mono ?_;rintro e c ⟨rfl,q⟩;have r:aj w c:=(d.trans (((ap _ _).alloc (ak _) _).mono d.size)).trans (q.mono (by have:=d.size;simp;omega));clear q;cases z with
   | true=>
    go_wp2_with fail;go_roundw
    case rel=>exact⟨k+1,by omega,by go_num,r,by rw[<-g.out,l.out];rfl⟩
    case measure=>simp[intOf];omega
   | false=>
    go_wp2_with fail
    go_ret
    exact⟨bL (by rw[<-g.out,l.out];rfl),r⟩
  ·go_wp2_with fail
   go_ret
   refine⟨bL ?_,d⟩;rw[<-g.out,jj (by rw[s.out];omega)];rfl
theorem ME(n:Nat)(x:Bh n):vv n x=(dG x.1 && (decide (1<=(x.2.2.length:Int)) && decide ((x.2.2.length:Int)<=6) && x.2.2.all (sQ n))):=by
 simp only[vv,Bool.and_assoc]
theorem pe(n:Nat)(p:List (Bh (n+1)))(len:Nat)(l:Hid (p.length=len))(a:Option Addr)(pc B:Nat)(w:World)(D:Hid (gP (n+1) B w a p))(M:len<=9223372036854775807)(s:B<=w.heap.size):am 58 #[ae a len pc] w λe w'=>e=.returned (.bool (jY (n+1) p))/\aj w w':=by
 have r:Hid (jY (n+1) p=(decide (1<=(len:Int)) && decide ((len:Int)<=7) && p.all (vv (n+1)))):=by
  show jY (n+1) p=_;rw[<-l.out];rfl
 rw[r.out];by_cases H:(len:Int)<1
 ·have A:decide (1<=(len:Int))=false:=by simp;omega
  rw[A];go_enter Tryz.func58,Tryz.ntmps58;go_wp2_with fail
  go_ret
  exact⟨rfl,ap _ _⟩
 by_cases I:(7:Int)<len
 ·have f:decide ((len:Int)<=7)=false:=by simp;omega
  rw[f];go_enter Tryz.func58,Tryz.ntmps58;go_wp2_with fail
  go_ret
  exact⟨bL (by simp),ap _ _⟩
 have f:(decide (1<=(len:Int)) && decide ((len:Int)<=7))=true:=by simp;omega
 rw[f,eg];clear f r;go_enter Tryz.func58,Tryz.ntmps58;go_wp2_with fail;go_loopw [15] (λo wr=>∃k:Nat,k<=len/\o=ab k/\aj w wr/\Hid ((p.drop k).all (vv (n+1))=p.all (vv (n+1)))) (λo _=>len-(intOf o).toNat)
 case atStart=>exact⟨0,by omega,rfl,ap _ _,rfl⟩
 case round=>
  obtain⟨k,J,rfl,d,g⟩:=hrel;by_cases C:k<len
  ·obtain⟨b,m⟩:∃b,p[k]?=some b:=⟨p[k]'(by rw[l.out];exact C),aH _⟩;have j:=ao (qq (vv (n+1)) p k b m);obtain⟨O,po,rfl,N,⟨Q,R⟩,h⟩:=(gP.below (d.mono s) D.out).bh k b m;have t:B<=wr.heap.size:=ay s d.size;have E:b.1.size<=9223372036854775807:=by have:=h.1;unfold maxLen at this;omega
   have z:Hid (∀c,aj wr c->am 86 #[ae b.2.1.1 b.2.2.length b.2.1.2] c λe w'=>e=.returned (.bool (decide (1<=(b.2.2.length:Int)) && decide ((b.2.2.length:Int)<=6) && b.2.2.all (sQ (n+1))))/\aj c w'):=
    λc y=>tK n b.2.2 b.2.2.length rfl b.2.1.1 b.2.1.2 B c (jX (dX (n+1)) (y.mono t) h.2.2) (by have:=h.2.1;unfold maxLen at this;omega) (ay t y.size)
   have i:=ao (ME (n+1) b);clear h m;generalize (decide (1<=(b.2.2.length:Int)) && decide ((b.2.2.length:Int)<=6) && b.2.2.all (sQ (n+1)))=F at*;have K:(0:Int)<=(k:Int):=by omega
   have L:(k:Int)<(len:Int):=by omega
   have q:=λc=>ao (iw b.1 c E);generalize dG b.1=G at*;generalize vv (n+1) b=P at*;have u:aj w (wr.alloc (.cells #[af b.1,ae b.2.1.1 b.2.2.length b.2.1.2] 138)):=d.trans (((ap _ _).alloc (ak _) _).mono d.size);cases G with
   | false=>
    go_wp2_with (go_at_call 64;refine(q _).out.mono ?_;rintro e w' ⟨rfl,rfl⟩)
    go_ret
    exact⟨bL (by rw[<-g.out,j.out,i.out];rfl),u⟩
   | true=>
    go_wp2_with (first|(go_at_call 64;refine(q _).out.mono ?_;rintro e w' ⟨rfl,rfl⟩)|(go_at_call 86;refine(z.out _ ((ap _ _).alloc (ak _) _)).mono ?_;rintro e c ⟨rfl,v⟩;have x:aj w c:=u.trans (v.mono (by have:=d.size;simp;omega));clear v;cases F))
    ·go_ret
     exact⟨bL (by rw[<-g.out,j.out,i.out];rfl),x⟩
    ·go_roundw
     case rel=>exact⟨k+1,by omega,by go_num,x,by rw[<-g.out,j.out,i.out];rfl⟩
     case measure=>simp[intOf];omega
  ·go_wp2_with fail
   go_ret
   refine⟨bL ?_,d⟩;rw[<-g.out,jj (by rw[l.out];omega)];rfl
theorem ir(s:ByteArray)(w:World):am 87 #[af s] w λe w'=>e=.returned (.agg #[ab 2,ab 0,af s,ae none 0 0])/\w'=w.alloc (.cells #[ab 2,ab 0,af s,ae none 0 0] 30):=by
 go_enter Tryz.func87,Tryz.ntmps87;go_wp2_with fail;exact av (v:=.agg #[ab 2,ab 0,af s,ae none 0 0]) (by simp[results,Tryz.results87,go_sem]) rfl ⟨rfl,rfl⟩
theorem fx(a:Option Addr)(l c:Nat)(w:World):am 89 #[ae a l c] w λe w'=>e=.returned (.agg #[ab 4,ab 0,af ⟨#[]⟩,ae a l c])/\w'=w.alloc (.cells #[ab 4,ab 0,af ⟨#[]⟩,ae a l c] 30):=by
 go_enter Tryz.func89,Tryz.ntmps89;go_wp2_with fail;exact av (v:=.agg #[ab 4,ab 0,af ⟨#[]⟩,ae a l c]) (by simp[results,Tryz.results89,go_sem]) rfl ⟨rfl,rfl⟩
def io(B N:Nat)(c:Tm N)(w:World)(e:Ending)(w':World):Prop:=
 ∃a:Tm N,e=.returned (dj N a)/\Hid (aj w w'/\In w'.heap.size w' N a/\bZ (λb=>b<B\/w.heap.size<=b) N a/\ax N a N c=true)
abbrev dS(n B base:Nat)(xs:List (Tm n))(v:Value)(w0 wr:World):Prop:=eR (λB w x=>In B w n x) (λP x=>bZ P n x) (hU n) 4 30 B base xs v w0 wr
theorem oC(n:Nat)(x:Tm n):(hU n x).length=4:=rfl
theorem gT(s:ByteArray)(N:Nat)(a:s.size<=maxLen)(B:Nat)(w:World):In B w (N+1) (aY s N):=⟨⟨by simp[aY,dn],by simp[aY,dn],a,by simp[aY],by simp[aY]⟩,ah rfl⟩
theorem AA(k a:Int)(N:Nat)(b:dn k)(c:dn a)(B:Nat)(w:World):In B w (N+1) (bK k a N):=⟨⟨b,c,aE _,by simp[bK],by simp[bK]⟩,ah rfl⟩
theorem nW(s:ByteArray)(N:Nat)(P:Nat->Prop):bZ P (N+1) (aY s N):=ah rfl
theorem Ef{n:Nat}{w:World}{b o:Nat}{x:Tm n}{B:Nat}{w0:World}(d:In B w0 n x)(a:∀(j:Nat)(c:Value),(hU n x)[j]?=some c->w.cell? ⟨b,o+j,none⟩=some c):dE w b o n x:=by
 cases n with
 | zero=>exact d.elim
 | succ n=>exact⟨a 0 _ rfl,a 1 _ rfl,a 2 _ rfl,a 3 _ rfl⟩
theorem dS.tells{B base N:Nat}{xs ys:List (Tm N)}{v:Value}{w w0 wr w':World}(p:dS N B base xs v w0 wr)(x:w.heap.size<=base)(s:aC (λa b=>ax N a N b) xs ys=true)(u:∀b,b<B\/base<=b->b<wr.heap.size->w'.heap[b]?=wr.heap[b]?)(t:wr.heap.size<=w'.heap.size)(g:aj w w'):∃a c,v=ae a xs.length c/\io B (N+1) (cX N ys) w (.returned (.agg #[ab 4,ab 0,af ⟨#[]⟩,ae a xs.length c])) w':=by
 have j:=dQ N;obtain⟨a,c,f,m,n,e⟩:=p.lay j (oC N);refine⟨a,c,f,((4,0,.empty),(a,c),xs),rfl,g,⟨⟨by simp[dn],by simp[dn],aE _,m.1,m.2⟩,?_⟩,?_,da rfl s⟩
 ·have q:=(cB j 4 (hU N) a).2.1 _ _ _ _ e n;have r:=(cB j 4 (hU N) a).2.2.1 _ _ wr w' _ (λb l=>u b l.1 l.2) q n;have d:=(cB j 4 (hU N) a).2.2.2.1 _ _ _ _ t r;rcases d with d|⟨b,o,f,g,d⟩
  ·exact ah d
  ·exact ai ⟨b,o,f,g,λk i h=>⟨Ef (d k i h).2 (d k i h).1,(d k i h).2⟩⟩
 ·rcases e with e|⟨b,o,f,g,e⟩
  ·exact ah e
  ·exact ai ⟨b,o,f,by omega,λk i h=>(e i (aG h)).mono λb g=>by omega⟩
theorem oB{B N:Nat}(xs:List (Tm N)){w w1 w':World}{cs:Array Value}{g L:Nat}(a:aj w w1)(r:g=w1.heap.size)(p:L=xs.length)(e:Below (w1.alloc (.cells cs 30)).heap.size (w1.alloc (.cells cs 30)) w')(q:cs.toList=xs.flatMap (hU N))(u:xs.length<=8)(i:B<=w.heap.size)(f:∀y∈xs,In B w N y):io B (N+1) (cX N xs) w (.returned (.agg #[ab 4,ab 0,af ⟨#[]⟩,ae (some ⟨g,0,none⟩) L L])) w':=by
 have o:=eR.lit (T:=30) (k:=4) (B:=B) (base:=w1.heap.size) (dQ N) xs (w0:=w1) q (oC N) (by unfold maxLen;omega) (ak _) (ap _ _) (λy d=>⟨((f y d).below (a.mono i)).mono (ay i a.size),(ol (f y d)).mono λb h=>ah h⟩);have j:aj w (w1.alloc (.cells cs 30)):=a.trans (((ap _ _).alloc (ak _) _).mono a.size);obtain⟨s,c,l,k⟩:=dS.tells o a.size (iE _ _ λy d=>ld (f y d)) (λb _ h=>e.block b h) e.size (j.trans (e.mono j.size));injection l with m t n;subst m n p r;exact k
theorem gI{w:World}{a b c:Obj}:aj w (((w.alloc a).alloc b).alloc c)/\w.heap.size+1+1+1=(((w.alloc a).alloc b).alloc c).heap.size:=
 ⟨(((ap _ _).alloc (ak _) _).alloc (by simp) _).alloc (by simp;omega) _,by simp⟩
theorem sq{w:World}{a b c d:Obj}:aj w ((((w.alloc a).alloc b).alloc c).alloc d)/\w.heap.size+1+1+1+1=((((w.alloc a).alloc b).alloc c).alloc d).heap.size:=
 ⟨((((ap _ _).alloc (ak _) _).alloc (by simp) _).alloc (by simp;omega) _).alloc (by simp;omega) _,by simp⟩
theorem uK{w:World}{o:Obj}:aj w (w.alloc o).drew:=((ap _ _).alloc (ak _) _).drew
theorem aM{w:World}{o:Obj}:aj w (w.alloc o):=(ap _ _).alloc (ak _) _
theorem mY(s:ByteArray)(a:s.size<=8):s.size<=maxLen:=by unfold maxLen;omega
theorem yS(n:Nat)(t x:Tm (n+1))(s:ByteArray)(v:Int)(B:Nat)(w:World)(b:In B w (n+1) t)(c:In B w (n+1) x)(h:B<=w.heap.size):am 155 #[.agg #[ab 1,ab t.1.1,ab t.1.2.1,af t.1.2.2,ae t.2.1.1 t.2.2.length t.2.1.2,ab x.1.1,ab x.1.2.1,af x.1.2.2,ae x.2.1.1 x.2.2.length x.2.1.2,af s,ab v]] w (io B (n+2) (cX (n+1) [aY l9 n,t,x]) w):=by
 have f:Hid (∀e∈[aY l9 n,t,x],In B w (n+1) e):=λe d=>by
  simp only[ch,gh,gq]at d;rcases d with rfl|rfl|rfl
  ·exact gT _ _ (mY _ (by decide)) _ _
  ·exact b
  ·exact c
 clear b c;go_enter Tryz.func155,Tryz.ntmps155;go_wp2_with fail
 go_region_held3 (λa=>(a.cell? ⟨w.heap.size,1,none⟩=some (ab t.1.1)/\a.cell? ⟨w.heap.size,2,none⟩=some (ab t.1.2.1)/\a.cell? ⟨w.heap.size,3,none⟩=some (af t.1.2.2)/\a.cell? ⟨w.heap.size,4,none⟩=some (ae t.2.1.1 t.2.2.length t.2.1.2))/\
     (a.cell? ⟨w.heap.size,5,none⟩=some (ab x.1.1)/\a.cell? ⟨w.heap.size,6,none⟩=some (ab x.1.2.1)/\a.cell? ⟨w.heap.size,7,none⟩=some (af x.1.2.2)/\a.cell? ⟨w.heap.size,8,none⟩=some (ae x.2.1.1 x.2.2.length x.2.1.2))) (first|(go_keep;done)|(simp[go_sem];done))
  ((first|(go_at_call 87;refine(ir _ _).mono ?_;rintro g i ⟨rfl,rfl⟩)|(go_at_call 89;refine(fx _ _ _ _).mono ?_;rintro g i ⟨rfl,rfl⟩)))
 go_wp2_with fail;exact av (v:=.agg #[ab 4,ab 0,af ⟨#[]⟩,ae (some ⟨w.heap.size+1+1+1,0,none⟩) 3 3]) (by simp[results,Tryz.results155,go_sem]) rfl (oB [aY l9 n,t,x] gI.1 gI.2 rfl uK rfl (by simp) h f.out)
theorem yR(n:Nat)(t x:Tm (n+1))(s:ByteArray)(v:Int)(B:Nat)(w:World)(b:In B w (n+1) t)(g:B<=w.heap.size):am 155 #[.agg #[ab 3,ab t.1.1,ab t.1.2.1,af t.1.2.2,ae t.2.1.1 t.2.2.length t.2.1.2,ab x.1.1,ab x.1.2.1,af x.1.2.2,ae x.2.1.1 x.2.2.length x.2.1.2,af s,ab v]] w (io B (n+2) (cX (n+1) [aY l7 n,t]) w):=by
 have e:Hid (∀d∈[aY l7 n,t],In B w (n+1) d):=λd c=>by
  simp only[ch,gh,gq]at c;rcases c with rfl|rfl
  ·exact gT _ _ (mY _ (by decide)) _ _
  ·exact b
 clear b;go_enter Tryz.func155,Tryz.ntmps155;go_wp2_with fail
 go_region_held3 (λa=>a.cell? ⟨w.heap.size,1,none⟩=some (ab t.1.1)/\a.cell? ⟨w.heap.size,2,none⟩=some (ab t.1.2.1)/\a.cell? ⟨w.heap.size,3,none⟩=some (af t.1.2.2)/\a.cell? ⟨w.heap.size,4,none⟩=some (ae t.2.1.1 t.2.2.length t.2.1.2)) (first|(go_keep;done)|(simp[go_sem];done))
  ((first|(go_at_call 87;refine(ir _ _).mono ?_;rintro f h ⟨rfl,rfl⟩)|(go_at_call 89;refine(fx _ _ _ _).mono ?_;rintro f h ⟨rfl,rfl⟩)))
 go_wp2_with fail;exact av (v:=.agg #[ab 4,ab 0,af ⟨#[]⟩,ae (some ⟨w.heap.size+1+1+1,0,none⟩) 2 2]) (by simp[results,Tryz.results155,go_sem]) rfl (oB [aY l7 n,t] gI.1 gI.2 rfl uK rfl (by simp) g e.out)
theorem yT(n:Nat)(K:Int)(g:(K==1)=false)(h:(K==2)=false)(i:(K==3)=false)(t x:Tm (n+1))(s:ByteArray)(v:Int)(B:Nat)(w:World)(e:B<=w.heap.size):am 155 #[.agg #[ab K,ab t.1.1,ab t.1.2.1,af t.1.2.2,ae t.2.1.1 t.2.2.length t.2.1.2,ab x.1.1,ab x.1.2.1,af x.1.2.2,ae x.2.1.1 x.2.2.length x.2.1.2,af s,ab v]] w (io B (n+2) (cX (n+1) [aY lk n]) w):=by
 have c:Hid (∀b∈[aY lk n],In B w (n+1) b):=λb a=>by
  simp only[ch,gh,gq]at a;subst a;exact gT _ _ (mY _ (by decide)) _ _
 go_enter Tryz.func155,Tryz.ntmps155;go_wp2_with (first|(go_at_call 87;refine(ir _ _).mono ?_;rintro d f ⟨rfl,rfl⟩)|(go_at_call 89;refine(fx _ _ _ _).mono ?_;rintro d f ⟨rfl,rfl⟩));exact av (v:=.agg #[ab 4,ab 0,af ⟨#[]⟩,ae (some ⟨w.heap.size+1+1+1,0,none⟩) 1 1]) (by simp[results,Tryz.results155,go_sem]) rfl (oB [aY lk n] gI.1 gI.2 rfl aM rfl (by simp) e c.out)
theorem vK(n:Nat)(t x:Tm (n+1))(s:ByteArray)(v:Int)(c:dn v)(b:s.size<=maxLen)(B:Nat)(w:World)(d:In B w (n+1) x)(i:B<=w.heap.size):am 155 #[.agg #[ab 2,ab t.1.1,ab t.1.2.1,af t.1.2.2,ae t.2.1.1 t.2.2.length t.2.1.2,ab x.1.1,ab x.1.2.1,af x.1.2.2,ae x.2.1.1 x.2.2.length x.2.1.2,af s,ab v]] w (io B (n+2) (cX (n+1) [aY iJ n,aY s n,x,bK 5 v n]) w):=by
 have g:Hid (∀f∈[aY iJ n,aY s n,x,bK 5 v n],In B w (n+1) f):=λf e=>by
  simp only[ch,gh,gq]at e;rcases e with rfl|rfl|rfl|rfl
  ·exact gT _ _ (mY _ (by decide)) _ _
  ·exact gT _ _ b _ _
  ·exact d
  ·exact AA _ _ _ (by simp[dn]) c _ _
 clear d b c;go_enter Tryz.func155,Tryz.ntmps155;go_wp2_with fail
 go_region_held3 (λa=>(a.cell? ⟨w.heap.size,9,none⟩=some (af s)/\a.cell? ⟨w.heap.size,10,none⟩=some (ab v))/\
     (a.cell? ⟨w.heap.size,5,none⟩=some (ab x.1.1)/\a.cell? ⟨w.heap.size,6,none⟩=some (ab x.1.2.1)/\a.cell? ⟨w.heap.size,7,none⟩=some (af x.1.2.2)/\a.cell? ⟨w.heap.size,8,none⟩=some (ae x.2.1.1 x.2.2.length x.2.1.2))) (first|(go_keep;done)|(simp[go_sem];done))
  ((first|(go_at_call 87;refine(ir _ _).mono ?_;rintro h j ⟨rfl,rfl⟩)|(go_at_call 89;refine(fx _ _ _ _).mono ?_;rintro h j ⟨rfl,rfl⟩)))
 all_goals go_wp2_with fail
 all_goals exact av (v:=.agg #[ab 4,ab 0,af ⟨#[]⟩,ae (some ⟨w.heap.size+1+1+1+1,0,none⟩) 4 4]) (by simp[results,Tryz.results155,go_sem]) rfl (oB [aY iJ n,aY s n,x,bK 5 v n] sq.1 sq.2 rfl uK rfl (by simp) i g.out)
theorem Bz(n:Nat)(a:Ac (n+1))(B:Nat)(w:World)(o:ij (n+1) B w a)(c:B<=w.heap.size):am 155 #[.agg (fW (n+1) a).toArray] w (io B (n+2) (bY n a) w):=by
 obtain⟨b,⟨t,f⟩,d,e⟩:=a;obtain⟨p,j,k,l,m⟩:=o;unfold bY;by_cases g:b=1
 ·subst g;exact yS n t f d e B w j k c
 by_cases h:b=2
 ·subst h;exact vK n t f d e m l B w k c
 by_cases i:b=3
 ·subst i;exact yR n t f d e B w j c
 ·simp only[g,h,i,if_false];exact yT n b (by simpa using g) (by simpa using h) (by simpa using i) t f d e B w c
end Go.Proofs.YtckamaoibonjcaaGreat
