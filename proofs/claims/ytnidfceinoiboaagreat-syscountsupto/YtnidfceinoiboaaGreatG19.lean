/- What is proved here: plain facts and contracts that the claimed theorem stands on. No condition but those that each names. -/
import Derived.Test.YtnidfceinoiboaaGreatG18
namespace Go.Proofs.YtnidfceinoiboaaGreat
open Go.RowKit Go.Maps
open Go.RowKit
set_option maxHeartbeats 2000000
set_option maxRecDepth 100000
theorem fN.mem{ws:List Wd}{nm:List ByteArray}{n:Nat}{l:List Wd}{p:List (Tm n)}(b:fN ws nm n l p){v:Wd}(e:v∈l):∃y∈p,dA ws nm n y v:=by
 obtain⟨a,c⟩:=cB e;have d:a<p.length:=by rw[<-b.1];exact(aK.1 c).1
 exact⟨p[a],iS _,b.2 a v p[a] c (aA d)⟩
def LW(g c:cJ)(a b:Nat):Prop:=∀p,(p<a\/b<=p)->look c p=look g p
theorem D6{d a C:List Wd}{b:Wd}(k:(a++b::C) <+:d):bU d a.length C.length=C:=by
 obtain⟨c,rfl⟩:=k;unfold bU;rw[show a++b::C++c=(a++ [b])++(C++c) by simp];rw[List.drop_left' (by simp),List.take_left' rfl]
theorem Ak{w w1:World}{vs:List Wd}{a:Option Addr}(c:ew w vs a)(d:Below w.heap.size w w1):ew w1 vs a:=by
 rcases c with c|⟨b,o,i,e,c⟩
 ·exact ae c
 ·exact af ⟨b,o,i,aL e d.size,λg h f=>⟨(aj d b _ e).trans (c g h f).1,(aj d b _ e).trans (c g h f).2⟩⟩
def Ca(ws:List Wd)(nm:List ByteArray)(n:Nat)(vs:List Wd)(p:List (Tm n)):Prop:=
 fN ws nm n vs p/\(∀a∈p,aB ⟨n,a⟩)/\(∀a∈p,aF n a=true)/\(p.map λa=>1+sz n a).sum<=90000/\(p.flatMap λa=>aq n a).length<=90000/\vs.length<=1000
def jh(ws:List Wd)(n:Nat)(vs:List Wd):List Wd×List Wd×cJ:=fX (je ws n) vs ([],[])
theorem Ca.all{ws:List Wd}{nm:List ByteArray}{n:Nat}{vs:List Wd}{p:List (Tm n)}(b:Ca ws nm n vs p)(g:ws.length<=1000)(f:nm.length<=50000):vs.all (cq ws nm)=true/\∀v∈vs,dc v.2:=by
 have key:∀v∈vs,cq ws nm v=true/\dc v.2:=λv a=>by
  obtain⟨d,c,e⟩:=b.1.mem a;exact zW e (b.2.1 d c) (b.2.2.1 d c) (by omega) (by omega)
 exact⟨bS.2 λv a=>(key v a).1,λv a=>(key v a).2⟩
def vO(base:Nat)(a:bW)(room:Int)(R:List Wd×List Wd×cJ)(nm:List ByteArray)(M:Nat->Prop)(g:Nat)(w w':World):Prop:=
 dy base a room R.2.1 nm (λb=>(M b\/w.heap.size<=b)/\b≠g) w'/\bD M w w'/\ew w' R.1 (some ⟨g,0,none⟩)/\w.heap.size<=g/\g<w'.heap.size/\∃len,w'.ownsRow g 125 2 (.slice (some ⟨g,0,none⟩) len len) len (aP R.1)
theorem vM{w:World}{g base len:Nat}{vs:List Wd}(a:w.ownsRow base 125 2 (.slice (some ⟨g,0,none⟩) len len) len (aP vs)):ew w vs (some ⟨g,0,none⟩)/\g<w.heap.size:=by
 refine⟨af ⟨g,0,rfl,(a.lt g rfl).2,λc d b=>?_⟩,(a.lt g rfl).2⟩;have:=ij a c d b;rw[cU];exact this
theorem Fs{base:Nat}{d:bW}{room:Int}{ws:List Wd}{nm:List ByteArray}{M:Nat->Prop}{R:List Wd×List Wd×cJ}{len g:Nat}{tv:Value}{w w1 w2:World}(j:dy base d room ws nm M w)(h:Below w.heap.size w w1)(p:j0 R len g tv w1 w2)(t:base<=w.heap.size):vO base d room R nm M g w (w2.setCell ⟨d.b,d.o+1,none⟩ tv):=by
 have u:=ym j h p t;obtain⟨z,q,i,F,B⟩:=p;have v:=h.size;have s:=h.trans (z.mono v);obtain⟨G,x,y,e,C,f,l,D,m,n⟩:=j.later s;have k:=aY w2 d.b (d.o+1) tv;have r:∀b,tv.ownBlock=some b->w1.heap.size<=b:=λb a=>(q.lt b a).1;have E:d.b<w.heap.size:=l.2;refine⟨⟨tv,x,y,e.set1 tv,dJ (pT q (by omega)) k (λb a c=>?_),f.kept k (λb a c=>?_) (λb a c=>?_),⟨ae l.1,by omega⟩,λb a=>⟨af (by have:=r b a;omega),λc=>B (by rw[a,c])⟩,λb a=>⟨ae (m b a).1,by have:=(m b a).2;omega⟩,λb a=>⟨ae (n b a).1,by have:=(n b a).2;omega⟩⟩,u.2,?_,by omega,?_,?_⟩
 ·subst c;have:=r _ a;omega
 ·subst c;exact mh f.1 e (by decide) a
 ·subst c;exact sg f e a
 ·have A:=dJ i k (λb a c=>by
    subst c;simp only[Value.ownBlock]at a;have:=ap a
    omega)
  exact(vM A).1
 ·have:=(vM i).2;simpa [World.setCell]using this
 ·exact⟨len,dJ i k (λb a c=>by
    subst c;simp only[Value.ownBlock]at a;have:=ap a
    omega)⟩
theorem wH(n:Nat)(p:List (Tm n))(vs:List Wd)(a:Option Addr)(pc base:Nat)(f:bW)(room:Int)(ws:List Wd)(nm:List ByteArray)(M:Nat->Prop)(w:World)(j:dy base f room ws nm M w)(d:Ca ws nm n vs p)(r:ew w vs a)(C:∀b o,a=some ⟨b,o,none⟩->b<w.heap.size)(z:base<=w.heap.size)(E:ws.length<=1000)(D:nm.length<=50000):Calls Tryz.prog 151 #[.pointer (some ⟨f.b,f.o,none⟩),.slice a vs.length pc] w λe w'=>∃g,e=.returned (.tuple #[.slice (some ⟨g,0,none⟩) vs.length vs.length,.int .i64 0])/\Hid (vO base f room (jh ws n vs) nm M g w w'):=by
 obtain⟨y,B⟩:=d.all E D;obtain⟨t,P,Q,m,q,J,K,L,N,O⟩:=id j;obtain⟨⟨F,v,G,H⟩,A⟩:=m.cells;obtain⟨h,i,rfl⟩:∃h i,t=.slice h ws.length i:=by
  rcases q.2 with⟨e,x⟩|⟨g,c,I,e,_⟩
  ·exact⟨none,0,by rw[e,x]⟩
  ·exact⟨_,c,e⟩
 refine(wm (jh ws n vs) f h ws.length i a vs.length pc w m.lt v (A _) ?_ ?_).mono ?_
 ·have s:=vV base f room ws nm M vs a vs.length pc w j (by omega) rfl (by have:=d.2.2.2.2.2;omega) r B;rw[y]at s;exact s
 ·intro u k;refine zD ws nm n vs p base (.slice h ws.length i) a pc u (dF q k) d.1 d.2.1 (by omega) (by have:=d.2.2.2.2.2;omega) d.2.2.2.1 d.2.2.2.2.1 (Ak r k) ?_;intro b o e;exact aL (C b o e) k.size
 ·rintro e w' ⟨g,t,u,R,rfl,rfl,l⟩;exact⟨g,rfl,Fs j l.out.1 l.out.2 z⟩
def nJ(ws:List Wd):Nat->Wd->List Nat
 | 0,_=> []
 | n+1,v=>if v.1=4 then
    match ws[v.2.toNat]? with
    | some a=>v.2.toNat::(bU ws v.2.toNat a.2.toNat).flatMap (nJ ws n)
    | none=> []
  else []
theorem lC{ws:List Wd}{n:Nat}{v:Wd}(a:v.1≠4):nJ ws n v=[]:=by
 cases n with
 | zero=>rfl
 | succ n=>simp[nJ,a]
theorem pV{ws:List Wd}{n p m:Nat}(a:ws[p]?=some (0,(m:Int))):nJ ws (n+1) (4,(p:Int))=p::(bU ws p m).flatMap (nJ ws n):=by
 simp[nJ,a]
theorem vm{nm:List ByteArray}{s:ByteArray}(a:s∈nm):ei nm s=nm:=by
 unfold ei;rw[if_pos ((wP nm s).2 a)]
theorem yp{ws:List Wd}{nm:List ByteArray}{n:Nat}(ih:∀(x:Tm n)(v:Wd)(S:List Wd×cJ),dA ws nm n x v->(nJ ws n v).Nodup->(∀p∈nJ ws n v,look S.2 p=none)->((je ws n v S).1=(aN n x S.1 nm).1/\(je ws n v S).2.1=(aN n x S.1 nm).2.1/\(aN n x S.1 nm).2.2=nm)/\∀p,look (je ws n v S).2.2 p=none ↔ look S.2 p=none/\p∉nJ ws n v):(us:List Wd)->(ys:List (Tm n))->fN ws nm n us ys->(S:List Wd×cJ)->(us.flatMap (nJ ws n)).Nodup->(∀p∈us.flatMap (nJ ws n),look S.2 p=none)-> ((fX (je ws n) us S).1=(bw (aN n) ys S.1 nm).1/\(fX (je ws n) us S).2.1=(bw (aN n) ys S.1 nm).2.1/\(bw (aN n) ys S.1 nm).2.2=nm)/\∀p,look (fX (je ws n) us S).2.2 p=none ↔ look S.2 p=none/\p∉us.flatMap (nJ ws n)
 | us,ys,a,S,hn,hl=>by
  induction us generalizing ys S with
  | nil=>
   obtain rfl:ys=[]:=by have:=a.1;cases ys with|nil=>rfl|cons e l=>simp at this
   simp[fX,bw]
  | cons v us z=>
   cases ys with
   | nil=>have:=a.1;simp at this
   | cons d ys=>
    have r:dA ws nm n d v:=a.2 0 v d (by simp) (by simp);have w:fN ws nm n us ys:=⟨by have:=a.1;simpa using this,λy e b s t=>a.2 (y+1) e b (by simpa using s) (by simpa using t)⟩;rw[bj]at hn hl;obtain⟨A,B,C⟩:=eH.1 hn;obtain⟨⟨g,h,i⟩,f⟩:=ih d v S r A (λp c=>hl p (lL _ c));have u:∀p∈us.flatMap (nJ ws n),look (je ws n v S).2.2 p=none:=λp c=>(f p).2 ⟨hl p (List.mem_append_right _ c),λq=>C p q p c rfl⟩;obtain⟨⟨j,k,m⟩,o⟩:=z ys w (je ws n v S).2 B u;simp only[fX,bw];rw[i,<-h];refine⟨⟨by rw[g,j],k,m⟩,λp=>?_⟩;rw[o p,f p,bj,di,not_or,and_assoc]
theorem Co{ws:List Wd}{nm:List ByteArray}(g:nm.Nodup):(n:Nat)->(x:Tm n)->(v:Wd)->(S:List Wd×cJ)->dA ws nm n x v->(nJ ws n v).Nodup->(∀p∈nJ ws n v,look S.2 p=none)-> ((je ws n v S).1=(aN n x S.1 nm).1/\(je ws n v S).2.1=(aN n x S.1 nm).2.1/\(aN n x S.1 nm).2.2=nm)/\∀p,look (je ws n v S).2.2 p=none ↔ look S.2 p=none/\p∉nJ ws n v
 | 0,_,_,_,h,_,_=>h.elim
 | n+1,x,v,S,h,hn,hl=>by
  by_cases b:x.1.1=4
  ·obtain⟨p,rfl,i,u,s⟩:=iN h b;rw[pV i]at hn hl ⊢;have o:=hl p (by simp);rw[wv o i];have r:=jR.1 hn;obtain⟨⟨k,f,l⟩,m⟩:=yp (λx v S=>Co g n x v S) (bU ws p x.2.2.length) x.2.2 s S r.2 (λq c=>hl q (bR _ c));have e:aN (n+1) x S.1 nm=((4,((bw (aN n) x.2.2 S.1 nm).2.1.length:Int)),(bw (aN n) x.2.2 S.1 nm).2.1++(0,(x.2.2.length:Int))::(bw (aN n) x.2.2 S.1 nm).1,(bw (aN n) x.2.2 S.1 nm).2.2):=by
    simp only[aN];rw[if_neg (by omega),if_pos b]
   rw[e];refine⟨⟨by rw[f],by rw[k,f],l⟩,λq=>?_⟩;by_cases c:q=p
   ·subst c;rw[qG];simp
   ·rw[oR _ _ c,m q];simp[c]
  ·have j:=g9 h b;rw[sU j,lC j];refine⟨⟨?_,?_,?_⟩,λq=>by simp⟩
   ·simp only[aN];by_cases a:x.1.1=2
    ·rw[if_pos a];obtain⟨t,rfl,d⟩:=h.1 a;rw[vm (ay d),zb g d]
    ·rw[if_neg a,if_neg b];exact h.2.2 a b
   ·simp only[aN];split
    ·rfl
    ·rfl
   ·simp only[aN];split
    ·rename_i a;obtain⟨t,rfl,d⟩:=h.1 a;exact vm (ay d)
    ·rfl
theorem Bo{ws a:List Wd}(b:ws <+:a){p m:Nat}(c:p+1+m<=ws.length):bU a p m=bU ws p m:=by
 obtain⟨t,rfl⟩:=b;unfold bU;rw[nQ (by omega),iX (by rw[eG];omega)]
theorem I9{ws b:List Wd}(c:ws <+:b){p:Nat}{v:Wd}(a:ws[p]?=some v):b[p]?=some v:=by
 obtain⟨t,rfl⟩:=c;rw[cY (aK.1 a).1];exact a
theorem lX{c e:Type}{f g:c->List e}:{l:List c}->(∀a∈l,f a=g a)->l.flatMap f=l.flatMap g
 | [],_=>rfl
 | a::l,h=>by rw[bj,bj,h a (by simp),lX (l:=l) λb d=>h b (by simp[d])]
theorem pU{ws d:List Wd}{nm:List ByteArray}(b:ws <+:d):(n:Nat)->(x:Tm n)->(v:Wd)->dA ws nm n x v->nJ d n v=nJ ws n v
 | 0,_,_,h=>h.elim
 | n+1,x,v,h=>by
  by_cases a:x.1.1=4
  ·obtain⟨p,rfl,c,e,f⟩:=iN h a;rw[pV c,pV (I9 b c),Bo b e];congr 1;refine lX λu g=>?_;obtain⟨y,_,i⟩:=f.mem g;exact pU b n y u i
  ·rw[lC (g9 h a),lC (g9 h a)]
theorem wU{ws:List Wd}{nm:List ByteArray}:(n:Nat)->(x:Tm n)->(v:Wd)->dA ws nm n x v->∀p∈nJ ws n v,p<ws.length
 | 0,_,_,h,_,_=>h.elim
 | n+1,x,v,h,q,a=>by
  by_cases b:x.1.1=4
  ·obtain⟨p,rfl,c,g,d⟩:=iN h b;rw[pV c,br,iU]at a;rcases a with rfl|⟨u,e,a⟩
   ·omega
   ·obtain⟨y,_,f⟩:=d.mem e;exact wU n y u f q a
  ·rw[lC (g9 h b)]at a;cases a
theorem tp{n:Nat}(ih:∀(x:Tm n)(ws:List Wd)(nm:List ByteArray),aB ⟨n,x⟩->(nJ (aN n x ws nm).2.1 n (aN n x ws nm).1).Nodup/\∀p∈nJ (aN n x ws nm).2.1 n (aN n x ws nm).1,ws.length<=p):(l:List (Tm n))->(ws:List Wd)->(nm:List ByteArray)->(∀y∈l,aB ⟨n,y⟩)->((bw (aN n) l ws nm).1.flatMap (nJ (bw (aN n) l ws nm).2.1 n)).Nodup/\∀p∈(bw (aN n) l ws nm).1.flatMap (nJ (bw (aN n) l ws nm).2.1 n),ws.length<=p
 | [],_,_,_=>by simp[bw]
 | y::l,ws,nm,hr=>by
  have f:=ih y ws nm (hr y (by simp));have g:=fZ n y ws nm (hr y (by simp));have d:=tp ih l (aN n y ws nm).2.1 (aN n y ws nm).2.2 (λz m=>hr z (by simp[m]));have c:=(pJ (λx ws nm=>lq n x ws nm) l (aN n y ws nm).2.1 (aN n y ws nm).2.2).1;have k:=pU c n y _ g;have j:=wU n y _ g;have o:=(lq n y ws nm).1.length_le;simp only[bw,bj];rw[k];refine⟨eH.2 ⟨f.1,d.1,λa h b i e=>?_⟩,λp c=>?_⟩
  ·have:=j a h;have:=d.2 b i;omega
  ·rcases di.1 c with c|c
   ·exact f.2 p c
   ·have:=d.2 p c;omega
theorem wJ:(n:Nat)->(x:Tm n)->(ws:List Wd)->(nm:List ByteArray)->aB ⟨n,x⟩->(nJ (aN n x ws nm).2.1 n (aN n x ws nm).1).Nodup/\∀p∈nJ (aN n x ws nm).2.1 n (aN n x ws nm).1,ws.length<=p
 | 0,_,_,_,h=>(cX h).elim
 | n+1,x,ws,nm,h=>by
  by_cases q:x.1.1=4
  ·have e:aN (n+1) x ws nm=((4,((bw (aN n) x.2.2 ws nm).2.1.length:Int)),(bw (aN n) x.2.2 ws nm).2.1++(0,(x.2.2.length:Int))::(bw (aN n) x.2.2 ws nm).1,(bw (aN n) x.2.2 ws nm).2.2):=by
     simp only[aN];rw[if_neg (by omega),if_pos q]
   have r:∀o∈x.2.2,aB ⟨n,o⟩:=λo B=>aU n x o h B;have k:=tp (λx ws nm l=>wJ n x ws nm l) x.2.2 ws nm r;have A:=(pJ (λx ws nm=>lq n x ws nm) x.2.2 ws nm).1.length_le;have s:=mS (λx ws nm l=>fZ n x ws nm l) x.2.2 ws nm r;have v:=f9 (aN n) x.2.2 ws nm;rw[e];generalize (bw (aN n) x.2.2 ws nm).2.1=c at*;generalize (bw (aN n) x.2.2 ws nm).1=d at*;generalize (bw (aN n) x.2.2 ws nm).2.2=D at*;have t:(c++(0,(x.2.2.length:Int))::d)[c.length]?=some (0,(x.2.2.length:Int)):=by simp
   have z:bU (c++(0,(x.2.2.length:Int))::d) c.length x.2.2.length=d:=by rw[<-v];exact D6 (fK _)
   have y:d.flatMap (nJ (c++(0,(x.2.2.length:Int))::d) n)=d.flatMap (nJ c n):=lX λm j=>by
    obtain⟨i,f⟩:=cB j;have u:=(aK.1 f).1;obtain⟨C,b,g⟩:=s i (x.2.2[i]'(by omega)) (aA _);rw[f]at b;injection b with b;subst b;exact pU (nV _ _) n _ m g
   have w:∀p∈d.flatMap (nJ c n),p<c.length:=λp a=>by
    obtain⟨m,j,a⟩:=iU.1 a;obtain⟨i,f⟩:=cB j;have u:=(aK.1 f).1;obtain⟨C,b,g⟩:=s i (x.2.2[i]'(by omega)) (aA _);rw[f]at b;injection b with b;subst b;exact wU n _ m g p a
   simp only;rw[pV t,z,y];refine⟨jR.2 ⟨λa=>by have:=w _ a;omega,k.1⟩,λp a=>?_⟩;rcases br.1 a with rfl|a
   ·exact A
   ·exact k.2 p a
  ·have g:=fZ (n+1) x ws nm h;rw[lC (g9 g q)];simp
theorem yO(n:Nat):(l:List (Tm n))->(ws:List Wd)->(nm:List ByteArray)->((bw (aN n) l ws nm).2.1.length:Int)=ws.length+(l.map (sz n)).sum
 | [],_,_=>by simp[bw]
 | y::l,ws,nm=>by
  have a:=(g8 n y ws nm).1;have b:=yO n l (aN n y ws nm).2.1 (aN n y ws nm).2.2;simp only[bw,aH,bt];omega
theorem By{ws:List Wd}{nm:List ByteArray}(d:nm.Nodup){n:Nat}{vs:List Wd}{p:List (Tm n)}(b:fN ws nm n vs p)(c:(vs.flatMap (nJ ws n)).Nodup):(jh ws n vs).1=(bw (aN n) p [] nm).1/\(jh ws n vs).2.1=(bw (aN n) p [] nm).2.1/\(bw (aN n) p [] nm).2.2=nm:=
 (yp (λf e a=>Co d n f e a) vs p b ([],[]) c (λ_ _=>rfl)).1
def iO:ByteArray:=⟨#[99,111,100,101]⟩
def nh:ByteArray:=⟨#[98,101,104]⟩
def B5:ByteArray:=⟨#[111,110]⟩
def iP:ByteArray:=⟨#[115,101,110,100]⟩
def jj:ByteArray:=⟨#[115,112,97,119,110]⟩
def mA:ByteArray:=⟨#[108,105,110,107]⟩
def mB:ByteArray:=⟨#[115,116,111,112]⟩
def ez(n:Nat)(x:Tm n):Bool:=(iv n x).1.1==0 && (iv n x).1.2.1==0 && (iv n x).1.2.2.toList.isEmpty && ((iv n x).2.2.1:Int)==0
def tE(s:ByteArray)(v:Int):Bool:=s.toList.isEmpty && v==0
def lU(n:Nat)(a:Ac n):Bool:=
 if a.1=1 then tE a.2.2.1 a.2.2.2
 else if a.1=2 then ez n a.2.1.1 && cg a.2.2.1 && decide (0<=a.2.2.2) && decide (a.2.2.2<4)
 else if a.1=3 then ez n a.2.1.2 && tE a.2.2.1 a.2.2.2
 else if a.1=4 then ez n a.2.1.1 && ez n a.2.1.2 && tE a.2.2.1 a.2.2.2
 else false
def ri(n:Nat)(c:Cl n):Bool:=decide ((c.2.2.length:Int)<=8) && c.2.2.all (lU n)
def sI(n:Nat)(b:Bh n):Bool:=cg b.1 && decide (1<=(b.2.2.length:Int)) && decide ((b.2.2.length:Int)<=6) && b.2.2.all (ri n)
def jy(n:Nat)(l:List (Bh n)):Bool:=decide (1<=(l.length:Int)) && decide ((l.length:Int)<=7) && l.all (sI n)
def aQ(s:ByteArray)(N:Nat):Tm (N+1):=((2,0,s),(none,0),[])
def de(n:Nat)(a:Ac (n+1)):Tm (n+2):=
 if a.1=1 then cM (n+1) [aQ iP n,a.2.1.1,a.2.1.2]
 else if a.1=2 then cM (n+1) [aQ jj n,aQ a.2.2.1 n,a.2.1.2,aS 5 a.2.2.2 n]
 else if a.1=3 then cM (n+1) [aQ mA n,a.2.1.1]
 else cM (n+1) [aQ mB n]
def eD(n:Nat)(c:Cl (n+1)):Tm (n+4):=
 cM (n+3) [aQ B5 (n+2),aI (n+3) (n+1) c.1.1,aI (n+3) (n+1) c.1.2.1,cM (n+2) (c.2.2.map (de n)),aI (n+3) (n+1) c.1.2.2]
def ek(n:Nat)(b:Bh (n+1)):Tm (n+5):=cM (n+4) (aQ nh (n+3)::aQ b.1 (n+3)::b.2.2.map (eD n))
def cR(n:Nat)(l:List (Bh (n+1))):Tm (n+6):=cM (n+5) (aQ iO (n+4)::l.map (ek n))
def dz{a b:Type}(R:a->b->Prop)(l:List a)(r:List b):Prop:=l.length=r.length/\∀(i:Nat)(x:a)(y:b),l[i]?=some x->r[i]?=some y->R x y
theorem dz.nil{b c:Type}{R:b->c->Prop}:dz R [] []:=⟨rfl,λi x y a=>by simp at a⟩
theorem dz.snoc{g h:Type}{R:g->h->Prop}{l:List g}{r:List h}(d:dz R l r){x:g}{y:h}(k:R x y):dz R (l++ [x]) (r++ [y]):=by
 refine⟨by simp[d.1],λf j b a c=>?_⟩;by_cases i:f<l.length
 ·rw[cY i]at a;rw[cY (by rw[<-d.1];exact i)]at c;exact d.2 f j b a c
 ·rw[dN (by omega)]at a;rw[dN (by rw[<-d.1];omega)]at c;have e:f-l.length=0:=by
   by_cases e:f-l.length=0
   ·exact e
   ·rw[eP (by simp;omega)]at a;cases a
  rw[<-d.1,e]at c;rw[e]at a;simp at a c;rw[<-a,<-c];exact k
theorem dz.tail{c d:Type}{R:c->d->Prop}{x:c}{y:d}{l:List c}{r:List d}(a:dz R (x::l) (y::r)):R x y/\dz R l r:=
 ⟨a.2 0 x y (by simp) (by simp),by simpa using a.1,λh e b f g=>a.2 (h+1) e b (by simpa using f) (by simpa using g)⟩
theorem dz.all{a b:Type}{R:a->b->Prop}(f:a->Bool)(g:b->Bool)(c:∀x y,R x y->f x=g y):(l:List a)->(r:List b)->dz R l r->l.all f=r.all g
 | [],[],_=>rfl
 | [],_::_,h=>by have:=h.1;simp at this
 | _::_,[],h=>by have:=h.1;simp at this
 | x::l,y::r,h=>by
  simp only[List.all_cons,c x y h.tail.1,dz.all f g c l r h.tail.2]
theorem dz.same{c d:Type}{R:c->d->Prop}{n m:Nat}(f:c->Tm n)(g:d->Tm m)(e:∀x y,R x y->aw n (f x) m (g y)=true):(l:List c)->(r:List d)->dz R l r->av (λa b=>aw n a m b) (l.map f) (r.map g)=true
 | [],[],_=>rfl
 | [],_::_,h=>by have:=h.1;simp at this
 | _::_,[],h=>by have:=h.1;simp at this
 | x::l,y::r,h=>by
  simp only[aH,av,az];exact⟨e x y h.tail.1,dz.same f g e l r h.tail.2⟩
def Av(n:Nat)(a b:Ac n):Prop:=a.1=b.1/\aw n a.2.1.1 n b.2.1.1=true/\aw n a.2.1.2 n b.2.1.2=true/\a.2.2=b.2.2
def Aq(n:Nat)(a b:Cl n):Prop:=(aw n a.1.1 n b.1.1=true/\aw n a.1.2.1 n b.1.2.1=true/\aw n a.1.2.2 n b.1.2.2=true)/\dz (Av n) a.2.2 b.2.2
def sJ(n:Nat)(a b:Bh n):Prop:=a.1=b.1/\dz (Aq n) a.2.2 b.2.2
theorem CQ{n m:Nat}{x:Tm n}{y:Tm m}(a:aw n x m y=true):(iv n x).1=(iv m y).1/\(iv n x).2.2.1=(iv m y).2.2.1:=by
 cases n with
 | zero=>simp[aw]at a
 | succ n=>
  cases m with
  | zero=>simp[aw]at a
  | succ m=>
   have b:=bq a;have c:=cV _ _ _ b.2;simp only[iv,bm];exact⟨b.1,c⟩
theorem pY{n m:Nat}{x:Tm n}{y:Tm m}(b:aw n x m y=true):ez n x=ez m y:=by
 have a:=CQ b;simp only[ez,a.1,a.2]
theorem Lm{n:Nat}{a b:Ac n}(c:Av n a b):lU n a=lU n b:=by
 obtain⟨d,e,f,g⟩:=c;simp only[lU,d,g,pY e,pY f]
theorem Lp{n:Nat}{a b:Cl n}(c:Aq n a b):ri n a=ri n b:=by
 simp only[ri,c.2.1,dz.all (R:=Av n) (lU n) (lU n) (λ_ _ c=>Lm c) _ _ c.2]
theorem Lo{n:Nat}{a b:Bh n}(c:sJ n a b):sI n a=sI n b:=by
 simp only[sI,c.1,c.2.1,dz.all (R:=Aq n) (ri n) (ri n) (λ_ _ c=>Lp c) _ _ c.2]
theorem CJ{n:Nat}{l r:List (Bh n)}(a:dz (sJ n) l r):jy n l=jy n r:=by
 simp only[jy,a.1,dz.all (R:=sJ n) (sI n) (sI n) (λ_ _ a=>Lo a) _ _ a]
theorem df(s:ByteArray)(N M:Nat):aw (N+1) (aQ s N) (M+1) (aQ s M)=true:=bX rfl rfl
theorem oN(k u:Int)(N M:Nat):aw (N+1) (aS k u N) (M+1) (aS k u M)=true:=bX rfl rfl
theorem gi{N M:Nat}{l:List (Tm N)}{r:List (Tm M)}(c:av (λa b=>aw N a M b) l r=true):aw (N+1) (cM N l) (M+1) (cM M r)=true:=bX rfl c
theorem lu:(N n:Nat)->n<=N->(x:Tm n)->aw n x n x=true->aw N (aI N n x) n x=true
 | _,0,_,_,h=>by simp[aw]at h
 | 0,n+1,h,_,_=>by omega
 | N+1,n+1,h,x,hr=>by
  have b:=(bq hr).2;refine bX rfl (ib _ _ _ λy c=>lu N n (by omega) y ?_);obtain⟨i,a⟩:=cB c;exact ku _ _ _ b i y y a a
theorem vC{n m:Nat}{x:Tm n}{y:Tm m}(a:aw n x m y=true):aw n x n x=true:=bP _ _ _ _ _ _ a (dU _ _ _ _ a)
theorem BC{n m:Nat}{x:Tm n}{y:Tm m}(a:aw n x m y=true):aw m y m y=true:=bP _ _ _ _ _ _ (dU _ _ _ _ a) a
theorem nD{N n m:Nat}(c:n<=N)(b:m<=N){x:Tm n}{y:Tm m}(a:aw n x m y=true):aw N (aI N n x) N (aI N m y)=true:=
 bP _ _ _ _ _ _ (lu N n c x (vC a)) (bP _ _ _ _ _ _ a (dU _ _ _ _ (lu N m b y (BC a))))
theorem kL{B:Nat}{w:World}:{n:Nat}->{x:Tm n}->In B w n x->aw n x n x=true
 | 0,_,k=>k.elim
 | n+1,x,k=>by
  refine bX rfl (kv _ _ λy a=>?_);obtain⟨i,c⟩:=cB a;rcases k.2 with e|⟨b,o,_,_,d⟩
  ·rw[e]at a;cases a
  ·exact kL (d i y c).2
theorem E7{n:Nat}{a b:Ac (n+1)}(e:Av (n+1) a b):aw (n+2) (de n a) (n+2) (de n b)=true:=by
 obtain⟨f,c,d,g⟩:=e;unfold de;rw[f,g];split
 ·exact gi (by simp[av,df,c,d])
 split
 ·exact gi (by simp[av,df,oN,d])
 split
 ·exact gi (by simp[av,df,c])
 ·exact gi (by simp[av,df])
theorem Fp{n:Nat}{a b:Cl (n+1)}(c:Aq (n+1) a b):aw (n+4) (eD n a) (n+4) (eD n b)=true:=by
 have d:=dz.same (de n) (de n) (λ_ _ c=>E7 c) _ _ c.2;exact gi (by simp only[av,az];exact⟨df _ _ _,nD (by omega) (by omega) c.1.1,nD (by omega) (by omega) c.1.2.1,gi d,nD (by omega) (by omega) c.1.2.2,trivial⟩)
theorem Fc{n:Nat}{a b:Bh (n+1)}(c:sJ (n+1) a b):aw (n+5) (ek n a) (n+5) (ek n b)=true:=by
 have d:=dz.same (eD n) (eD n) (λ_ _ c=>Fp c) _ _ c.2;refine gi ?_;simp only[av,az];exact⟨df _ _ _,by rw[c.1];exact df _ _ _,d⟩
theorem tM{n:Nat}{l r:List (Bh (n+1))}(a:dz (sJ (n+1)) l r):aw (n+6) (cR n l) (n+6) (cR n r)=true:=by
 have b:=dz.same (ek n) (ek n) (λ_ _ a=>Fc a) _ _ a;refine gi ?_;simp only[av,az];exact⟨df _ _ _,b⟩
theorem dt(k u:Int)(s:ByteArray)(a:Option Addr)(l c:Nat)(w:World):Calls Tryz.prog 154 #[.agg #[.int .i64 k,.int .i64 u,.string s,.slice a l c]] w λe w'=>e=.returned (.bool (k==0 && u==0 && s.toList.isEmpty && (l:Int)==0))/\w'=w.alloc (.cells #[.int .i64 k,.int .i64 u,.string s,.slice a l c] 30):=by
 cases h1:k==0
 ·go_enter Tryz.func154,Tryz.ntmps154;go_wp2_with fail
  go_ret
  exact⟨rfl,rfl⟩
 cases h2:u==0
 ·go_enter Tryz.func154,Tryz.ntmps154;go_wp2_with fail
  go_ret
  exact⟨rfl,rfl⟩
 cases h3:s.toList.isEmpty
 ·go_enter Tryz.func154,Tryz.ntmps154;go_wp2_with fail
  go_ret
  exact⟨rfl,rfl⟩
 go_enter Tryz.func154,Tryz.ntmps154;go_wp2_with fail
 go_ret
 exact⟨rfl,rfl⟩
theorem o7(K a t1 c d v:Int)(t2 f s:ByteArray)(b g:Option Addr)(t4 t5 h i:Nat)(w:World):Calls Tryz.prog 153 #[.agg #[.int .i64 K,.int .i64 a,.int .i64 t1,.string t2,.slice b t4 t5,.int .i64 c,.int .i64 d,.string f,.slice g h i,.string s,.int .i64 v]] w λe w'=>e=.returned (.bool (tE s v))/\w'=w.alloc (.cells #[.int .i64 K,.int .i64 a,.int .i64 t1,.string t2,.slice b t4 t5,.int .i64 c,.int .i64 d,.string f,.slice g h i,.string s,.int .i64 v] 83):=by
 unfold tE;cases h3:s.toList.isEmpty
 ·go_enter Tryz.func153,Tryz.ntmps153;go_wp2_with fail
  go_ret
  exact⟨rfl,rfl⟩
 go_enter Tryz.func153,Tryz.ntmps153;go_wp2_with fail
 go_ret
 exact⟨rfl,rfl⟩
theorem A1(K o t1 p q v:Int)(t2 r s:ByteArray)(u x:Option Addr)(t4 t5 t y:Nat)(w:World)(m:s.size<=9223372036854775807)(h i l n:Bool)(a:Hid ((o==0 && t1==0 && t2.toList.isEmpty && (t4:Int)==0)=h))(d:Hid ((p==0 && q==0 && r.toList.isEmpty && (t:Int)==0)=i))(j:Hid (tE s v=l))(f:Hid (cg s=n)):Calls Tryz.prog 140 #[.agg #[.int .i64 K,.int .i64 o,.int .i64 t1,.string t2,.slice u t4 t5,.int .i64 p,.int .i64 q,.string r,.slice x t y,.string s,.int .i64 v]] w λe w'=>e=.returned (.bool (if K=1 then l else if K=2 then h && n && decide (0<=v) && decide (v<4)else if K=3 then i && l else if K=4 then h && i && l else false))/\Below w.heap.size w w':=by
 by_cases b:K=1
 ·subst b;rw[if_pos rfl];go_enter Tryz.func140,Tryz.ntmps140;go_wp2_with (go_at_call 153;refine(o7 _ _ _ _ _ _ _ _ _ _ _ _ _ _ _ _).mono ?_;rintro e w' ⟨rfl,rfl⟩;rw[j.out])
  go_ret
  exact⟨rfl,by go_grown⟩
 rw[if_neg b];by_cases c:K=2
 ·subst c;rw[if_pos rfl];clear d j b;cases h
  ·go_enter Tryz.func140,Tryz.ntmps140;go_wp2_with (go_at_call 154;refine(dt _ _ _ _ _ _ _).mono ?_;rintro e w' ⟨rfl,rfl⟩;rw[a.out])
   go_ret
   exact⟨rfl,by go_grown⟩
  cases n
  ·go_enter Tryz.func140,Tryz.ntmps140;go_wp2_with (first|(go_at_call 154;refine(dt _ _ _ _ _ _ _).mono ?_;rintro e w' ⟨rfl,rfl⟩;rw[a.out])|(go_at_call 54;refine(gZ _ _ m).mono ?_;rintro e w' ⟨rfl,rfl⟩;rw[f.out]))
   go_ret
   exact⟨rfl,by go_grown⟩
  cases hv:decide (0<=v)
  ·go_enter Tryz.func140,Tryz.ntmps140;go_wp2_with (first|(go_at_call 154;refine(dt _ _ _ _ _ _ _).mono ?_;rintro e w' ⟨rfl,rfl⟩;rw[a.out])|(go_at_call 54;refine(gZ _ _ m).mono ?_;rintro e w' ⟨rfl,rfl⟩;rw[f.out]))
   go_ret
   exact⟨rfl,by go_grown⟩
  ·go_enter Tryz.func140,Tryz.ntmps140;go_wp2_with (first|(go_at_call 154;refine(dt _ _ _ _ _ _ _).mono ?_;rintro e w' ⟨rfl,rfl⟩;rw[a.out])|(go_at_call 54;refine(gZ _ _ m).mono ?_;rintro e w' ⟨rfl,rfl⟩;rw[f.out]))
   go_ret
   exact⟨rfl,by go_grown⟩
 rw[if_neg c];by_cases g:K=3
 ·subst g;rw[if_pos rfl];clear a f b c;cases i
  ·go_enter Tryz.func140,Tryz.ntmps140;go_wp2_with (go_at_call 154;refine(dt _ _ _ _ _ _ _).mono ?_;rintro e w' ⟨rfl,rfl⟩;rw[d.out])
   go_ret
   exact⟨rfl,by go_grown⟩
  ·go_enter Tryz.func140,Tryz.ntmps140;go_wp2_with (first|(go_at_call 154;refine(dt _ _ _ _ _ _ _).mono ?_;rintro e w' ⟨rfl,rfl⟩;rw[d.out])|(go_at_call 153;refine(o7 _ _ _ _ _ _ _ _ _ _ _ _ _ _ _ _).mono ?_;rintro e w' ⟨rfl,rfl⟩;rw[j.out]))
   go_ret
   exact⟨rfl,by go_grown⟩
 rw[if_neg g];by_cases k:K=4
 ·subst k;rw[if_pos rfl];clear f b c g;cases h
  ·go_enter Tryz.func140,Tryz.ntmps140;go_wp2_with (go_at_call 154;refine(dt _ _ _ _ _ _ _).mono ?_;rintro e w' ⟨rfl,rfl⟩;rw[a.out])
   go_ret
   exact⟨rfl,by go_grown⟩
  cases i
  ·go_enter Tryz.func140,Tryz.ntmps140;go_wp2_with (go_at_call 154;refine(dt _ _ _ _ _ _ _).mono ?_;rintro e w' ⟨rfl,rfl⟩;first|rw[a.out]|rw[d.out])
   go_ret
   exact⟨rfl,by go_grown⟩
  ·go_enter Tryz.func140,Tryz.ntmps140;go_wp2_with (first|(go_at_call 154;refine(dt _ _ _ _ _ _ _).mono ?_;rintro e w' ⟨rfl,rfl⟩;first|rw[a.out]|rw[d.out])|(go_at_call 153;refine(o7 _ _ _ _ _ _ _ _ _ _ _ _ _ _ _ _).mono ?_;rintro e w' ⟨rfl,rfl⟩;rw[j.out]))
   go_ret
   exact⟨rfl,by go_grown⟩
 rw[if_neg k];have z:(K==1)=false:=by simpa using b
 have A:(K==2)=false:=by simpa using c
 have B:(K==3)=false:=by simpa using g
 have C:(K==4)=false:=by simpa using k
 clear b c g k;go_enter Tryz.func140,Tryz.ntmps140;go_wp2_with fail
 go_ret
 exact⟨rfl,by go_grown⟩
theorem DC(n:Nat)(a:Ac (n+1))(w:World)(b:a.2.2.1.size<=maxLen):Calls Tryz.prog 140 #[.agg (fy (n+1) a).toArray] w λe w'=>e=.returned (.bool (lU (n+1) a))/\Below w.heap.size w w':=by
 unfold maxLen at b;exact A1 a.1 _ _ _ _ _ _ _ _ _ _ _ _ _ _ w (by omega) _ _ _ _ rfl rfl rfl rfl
def JT(n:Nat)(w:World)(b o:Nat)(x:Ac (n+1)):Prop:=
 w.cell? ⟨b,o,none⟩=some (.int .i64 x.1)/\
 (w.cell? ⟨b,o+1,none⟩=some (.int .i64 x.2.1.1.1.1)/\w.cell? ⟨b,o+2,none⟩=some (.int .i64 x.2.1.1.1.2.1)/\w.cell? ⟨b,o+3,none⟩=some (.string x.2.1.1.1.2.2)/\w.cell? ⟨b,o+4,none⟩=some (.slice x.2.1.1.2.1.1 x.2.1.1.2.2.length x.2.1.1.2.1.2))/\
 (w.cell? ⟨b,o+5,none⟩=some (.int .i64 x.2.1.2.1.1)/\w.cell? ⟨b,o+6,none⟩=some (.int .i64 x.2.1.2.1.2.1)/\w.cell? ⟨b,o+7,none⟩=some (.string x.2.1.2.1.2.2)/\w.cell? ⟨b,o+8,none⟩=some (.slice x.2.1.2.2.1.1 x.2.1.2.2.2.length x.2.1.2.2.1.2))/\
 w.cell? ⟨b,o+9,none⟩=some (.string x.2.2.1)/\w.cell? ⟨b,o+10,none⟩=some (.int .i64 x.2.2.2)
def JX(n:Nat)(w:World)(b o:Nat)(x:Cl (n+1)):Prop:=
 (w.cell? ⟨b,o,none⟩=some (.int .i64 x.1.1.1.1)/\w.cell? ⟨b,o+1,none⟩=some (.int .i64 x.1.1.1.2.1)/\w.cell? ⟨b,o+2,none⟩=some (.string x.1.1.1.2.2)/\w.cell? ⟨b,o+3,none⟩=some (.slice x.1.1.2.1.1 x.1.1.2.2.length x.1.1.2.1.2))/\
 (w.cell? ⟨b,o+4,none⟩=some (.int .i64 x.1.2.1.1.1)/\w.cell? ⟨b,o+5,none⟩=some (.int .i64 x.1.2.1.1.2.1)/\w.cell? ⟨b,o+6,none⟩=some (.string x.1.2.1.1.2.2)/\w.cell? ⟨b,o+7,none⟩=some (.slice x.1.2.1.2.1.1 x.1.2.1.2.2.length x.1.2.1.2.1.2))/\
 w.cell? ⟨b,o+8,none⟩=some (.slice x.2.1.1 x.2.2.length x.2.1.2)/\
 (w.cell? ⟨b,o+9,none⟩=some (.int .i64 x.1.2.2.1.1)/\w.cell? ⟨b,o+10,none⟩=some (.int .i64 x.1.2.2.1.2.1)/\w.cell? ⟨b,o+11,none⟩=some (.string x.1.2.2.1.2.2)/\w.cell? ⟨b,o+12,none⟩=some (.slice x.1.2.2.2.1.1 x.1.2.2.2.2.length x.1.2.2.2.1.2))
theorem oF.ac{n B:Nat}{w:World}{I:Ac (n+1)->Prop}{a:Option Addr}{p:List (Ac (n+1))}(d:oF B w 11 (fy (n+1)) I a p)(k:Nat)(x:Ac (n+1))(e:p[k]?=some x):∃b o,a=some ⟨b,o,none⟩/\b<B/\JT n w b (o+k*11) x/\I x:=by
 rcases d with d|⟨b,o,f,h,d⟩
 ·subst d;simp at e
 ·obtain⟨c,g⟩:=d k x e;exact⟨b,o,f,h,⟨c 0 _ rfl,⟨c 1 _ rfl,c 2 _ rfl,c 3 _ rfl,c 4 _ rfl⟩,⟨c 5 _ rfl,c 6 _ rfl,c 7 _ rfl,c 8 _ rfl⟩,c 9 _ rfl,c 10 _ rfl⟩,g⟩
theorem oF.cl{n B:Nat}{w:World}{I:Cl (n+1)->Prop}{a:Option Addr}{p:List (Cl (n+1))}(d:oF B w 13 (ex (n+1)) I a p)(k:Nat)(x:Cl (n+1))(e:p[k]?=some x):∃b o,a=some ⟨b,o,none⟩/\b<B/\JX n w b (o+k*13) x/\I x:=by
 rcases d with d|⟨b,o,f,h,d⟩
 ·subst d;simp at e
 ·obtain⟨c,g⟩:=d k x e;exact⟨b,o,f,h,⟨⟨c 0 _ rfl,c 1 _ rfl,c 2 _ rfl,c 3 _ rfl⟩,⟨c 4 _ rfl,c 5 _ rfl,c 6 _ rfl,c 7 _ rfl⟩,c 8 _ rfl,c 9 _ rfl,c 10 _ rfl,c 11 _ rfl,c 12 _ rfl⟩,g⟩
theorem oF.bh{n B:Nat}{w:World}{I:Bh (n+1)->Prop}{a:Option Addr}{p:List (Bh (n+1))}(c:oF B w 2 (nr (n+1)) I a p)(k:Nat)(x:Bh (n+1))(e:p[k]?=some x):∃b o,a=some ⟨b,o,none⟩/\b<B/\(w.cell? ⟨b,o+k*2,none⟩=some (.string x.1)/\w.cell? ⟨b,o+k*2+1,none⟩=some (.slice x.2.1.1 x.2.2.length x.2.1.2))/\I x:=by
 rcases c with c|⟨b,o,f,h,c⟩
 ·subst c;simp at e
 ·obtain⟨d,g⟩:=c k x e;exact⟨b,o,f,h,⟨d 0 _ rfl,d 1 _ rfl⟩,g⟩
theorem jF{b:Type}{I:Nat->World->b->Prop}{c:(Nat->Prop)->b->Prop}(e:jn I c){k:Nat}{f:b->List Value}{a:Option Addr}{B:Nat}{w w':World}(g:Below B w w'){l:List b}(d:oF B w k f (I B w) a l):oF B w' k f (I B w') a l:=(bZ e k f a).below g d
theorem xP(n:Nat)(p:List (Ac (n+1)))(len:Nat)(r:Hid (p.length=len))(a:Option Addr)(pc B:Nat)(w:World)(u:Hid (oF B w 11 (fy (n+1)) (gQ (n+1) B w) a p))(C:len<=9223372036854775807)(s:B<=w.heap.size):Calls Tryz.prog 111 #[.slice a len pc] w λe w'=>e=.returned (.bool (decide ((len:Int)<=8) && p.all (lU (n+1))))/\Below w.heap.size w w':=by
 by_cases x:(8:Int)<len
 ·have f:decide ((len:Int)<=8)=false:=by simp;omega
  rw[f];go_enter Tryz.func111,Tryz.ntmps111;go_wp2_with fail
  go_ret
  exact⟨rfl,ah _ _⟩
 have f:decide ((len:Int)<=8)=true:=by simp;omega
 rw[f,ed];clear f;go_enter Tryz.func111,Tryz.ntmps111;go_wp2_with fail;go_loopw [10] (λj wr=>∃k:Nat,k<=len/\j=.int .i64 k/\Below w.heap.size w wr/\Hid ((p.drop k).all (lU (n+1))=p.all (lU (n+1)))) (λj _=>len-(intOf j).toNat)
 case atStart=>exact⟨0,by omega,rfl,ah _ _,rfl⟩
 case round=>
  obtain⟨k,y,rfl,d,h⟩:=hrel;by_cases t:k<len
  ·obtain⟨b,i⟩:∃b,p[k]?=some b:=⟨p[k]'(by rw[r.out];exact t),aA _⟩;have l:=ai (px (lU (n+1)) p k b i);obtain⟨E,po,rfl,D,⟨F,⟨G,I,J,K⟩,⟨L,M,N,O⟩,P,H⟩,q⟩:=(jF (fh (n+1)) (d.mono s) u.out).ac k b i;have g:=λc=>ai (DC n b c q.2.2.2.1);replace g:Hid (∀c,Calls Tryz.prog 140 #[.agg #[.int .i64 b.1,.int .i64 b.2.1.1.1.1,.int .i64 b.2.1.1.1.2.1,.string b.2.1.1.1.2.2,.slice b.2.1.1.2.1.1 b.2.1.1.2.2.length b.2.1.1.2.1.2,.int .i64 b.2.1.2.1.1,.int .i64 b.2.1.2.1.2.1,.string b.2.1.2.1.2.2,.slice b.2.1.2.2.1.1 b.2.1.2.2.2.length b.2.1.2.2.1.2,.string b.2.2.1,.int .i64 b.2.2.2]] c λe w'=>e=.returned (.bool (lU (n+1) b))/\Below c.heap.size c w'):=λc=>(g c).out;clear q i;generalize lU (n+1) b=v at*;have z:(0:Int)<=(k:Int):=by omega
   have A:(k:Int)<(len:Int):=by omega
   go_wp2_with fail;refine(g.out _).mono ?_;rintro e c ⟨rfl,m⟩;have o:Below w.heap.size w c:=(d.trans (((ah _ _).alloc (ag _) _).mono d.size)).trans (m.mono (by have:=d.size;simp;omega));clear m;cases v with
   | true=>
    go_wp2_with fail;go_roundw
    case rel=>exact⟨k+1,by omega,by go_num,o,by rw[<-h.out,l.out];rfl⟩
    case measure=>simp[intOf];omega
   | false=>
    go_wp2_with fail
    go_ret
    exact⟨bF (by rw[<-h.out,l.out];rfl),o⟩
  ·go_wp2_with fail
   go_ret
   refine⟨bF ?_,d⟩;rw[<-h.out,fJ (by rw[r.out];omega)];rfl
theorem sH(n:Nat)(p:List (Cl (n+1)))(len:Nat)(s:Hid (p.length=len))(a:Option Addr)(pc B:Nat)(w:World)(y:Hid (oF B w 13 (ex (n+1)) (gj (n+1) B w) a p))(G:len<=9223372036854775807)(m:B<=w.heap.size):Calls Tryz.prog 77 #[.slice a len pc] w λe w'=>e=.returned (.bool (decide (1<=(len:Int)) && decide ((len:Int)<=6) && p.all (ri (n+1))))/\Below w.heap.size w w':=by
 by_cases A:(len:Int)<1
 ·have v:decide (1<=(len:Int))=false:=by simp;omega
  rw[v];go_enter Tryz.func77,Tryz.ntmps77;go_wp2_with fail
  go_ret
  exact⟨rfl,ah _ _⟩
 by_cases C:(6:Int)<len
 ·have f:decide ((len:Int)<=6)=false:=by simp;omega
  rw[f];go_enter Tryz.func77,Tryz.ntmps77;go_wp2_with fail
  go_ret
  exact⟨bF (by simp),ah _ _⟩
 have f:(decide (1<=(len:Int)) && decide ((len:Int)<=6))=true:=by simp;omega
 rw[f,ed];clear f;go_enter Tryz.func77,Tryz.ntmps77;go_wp2_with fail;go_loopw [15] (λj wr=>∃k:Nat,k<=len/\j=.int .i64 k/\Below w.heap.size w wr/\Hid ((p.drop k).all (ri (n+1))=p.all (ri (n+1)))) (λj _=>len-(intOf j).toNat)
 case atStart=>exact⟨0,by omega,rfl,ah _ _,rfl⟩
 case round=>
  obtain⟨k,D,rfl,d,g⟩:=hrel;by_cases x:k<len
  ·obtain⟨b,i⟩:∃b,p[k]?=some b:=⟨p[k]'(by rw[s.out];exact x),aA _⟩;have l:=ai (px (ri (n+1)) p k b i);obtain⟨I,po,rfl,H,⟨⟨J,K,O,P⟩,⟨Q,R,S,T⟩,U,V,L,M,N⟩,h⟩:=(jF (dW (n+1)) (d.mono m) y.out).cl k b i;have o:B<=wr.heap.size:=au m d.size
   have u:Hid (∀c,Below wr.heap.size wr c->Calls Tryz.prog 111 #[.slice b.2.1.1 b.2.2.length b.2.1.2] c λe w'=>e=.returned (.bool (ri (n+1) b))/\Below c.heap.size c w'):=
    λc t=>xP n b.2.2 b.2.2.length rfl b.2.1.1 b.2.1.2 B c (jF (fh (n+1)) (t.mono o) h.2.2) (by have:=h.2.1;unfold maxLen at this;omega) (au o t.size)
   clear h i;generalize ri (n+1) b=z at*;have E:(0:Int)<=(k:Int):=by omega
   have F:(k:Int)<(len:Int):=by omega
   go_wp2_with fail;refine(u.out _ ((ah _ _).alloc (ag _) _)).mono ?_;rintro e c ⟨rfl,q⟩;have r:Below w.heap.size w c:=(d.trans (((ah _ _).alloc (ag _) _).mono d.size)).trans (q.mono (by have:=d.size;simp;omega));clear q;cases z with
   | true=>
    go_wp2_with fail;go_roundw
    case rel=>exact⟨k+1,by omega,by go_num,r,by rw[<-g.out,l.out];rfl⟩
    case measure=>simp[intOf];omega
   | false=>
    go_wp2_with fail
    go_ret
    exact⟨bF (by rw[<-g.out,l.out];rfl),r⟩
  ·go_wp2_with fail
   go_ret
   refine⟨bF ?_,d⟩;rw[<-g.out,fJ (by rw[s.out];omega)];rfl
theorem Kh(n:Nat)(x:Bh n):sI n x=(cg x.1 && (decide (1<=(x.2.2.length:Int)) && decide ((x.2.2.length:Int)<=6) && x.2.2.all (ri n))):=by
 simp only[sI,Bool.and_assoc]
theorem ov(n:Nat)(p:List (Bh (n+1)))(len:Nat)(l:Hid (p.length=len))(a:Option Addr)(pc B:Nat)(w:World)(D:Hid (fx (n+1) B w a p))(M:len<=9223372036854775807)(s:B<=w.heap.size):Calls Tryz.prog 51 #[.slice a len pc] w λe w'=>e=.returned (.bool (jy (n+1) p))/\Below w.heap.size w w':=by
 have r:Hid (jy (n+1) p=(decide (1<=(len:Int)) && decide ((len:Int)<=7) && p.all (sI (n+1)))):=by
  show jy (n+1) p=_;rw[<-l.out];rfl
 rw[r.out];by_cases H:(len:Int)<1
 ·have A:decide (1<=(len:Int))=false:=by simp;omega
  rw[A];go_enter Tryz.func51,Tryz.ntmps51;go_wp2_with fail
  go_ret
  exact⟨rfl,ah _ _⟩
 by_cases I:(7:Int)<len
 ·have f:decide ((len:Int)<=7)=false:=by simp;omega
  rw[f];go_enter Tryz.func51,Tryz.ntmps51;go_wp2_with fail
  go_ret
  exact⟨bF (by simp),ah _ _⟩
 have f:(decide (1<=(len:Int)) && decide ((len:Int)<=7))=true:=by simp;omega
 rw[f,ed];clear f r;go_enter Tryz.func51,Tryz.ntmps51;go_wp2_with fail;go_loopw [15] (λo wr=>∃k:Nat,k<=len/\o=.int .i64 k/\Below w.heap.size w wr/\Hid ((p.drop k).all (sI (n+1))=p.all (sI (n+1)))) (λo _=>len-(intOf o).toNat)
 case atStart=>exact⟨0,by omega,rfl,ah _ _,rfl⟩
 case round=>
  obtain⟨k,J,rfl,d,g⟩:=hrel;by_cases C:k<len
  ·obtain⟨b,m⟩:∃b,p[k]?=some b:=⟨p[k]'(by rw[l.out];exact C),aA _⟩;have j:=ai (px (sI (n+1)) p k b m);obtain⟨O,po,rfl,N,⟨Q,R⟩,h⟩:=(fx.below (d.mono s) D.out).bh k b m;have t:B<=wr.heap.size:=au s d.size;have E:b.1.size<=9223372036854775807:=by have:=h.1;unfold maxLen at this;omega
   have z:Hid (∀c,Below wr.heap.size wr c->Calls Tryz.prog 77 #[.slice b.2.1.1 b.2.2.length b.2.1.2] c λe w'=>e=.returned (.bool (decide (1<=(b.2.2.length:Int)) && decide ((b.2.2.length:Int)<=6) && b.2.2.all (ri (n+1))))/\Below c.heap.size c w'):=
    λc y=>sH n b.2.2 b.2.2.length rfl b.2.1.1 b.2.1.2 B c (jF (dW (n+1)) (y.mono t) h.2.2) (by have:=h.2.1;unfold maxLen at this;omega) (au t y.size)
   have i:=ai (Kh (n+1) b);clear h m;generalize (decide (1<=(b.2.2.length:Int)) && decide ((b.2.2.length:Int)<=6) && b.2.2.all (ri (n+1)))=F at*;have K:(0:Int)<=(k:Int):=by omega
   have L:(k:Int)<(len:Int):=by omega
   have q:=λc=>ai (gZ b.1 c E);generalize cg b.1=G at*;generalize sI (n+1) b=P at*;have u:Below w.heap.size w (wr.alloc (.cells #[.string b.1,.slice b.2.1.1 b.2.2.length b.2.1.2] 89)):=d.trans (((ah _ _).alloc (ag _) _).mono d.size);cases G with
   | false=>
    go_wp2_with (go_at_call 54;refine(q _).out.mono ?_;rintro e w' ⟨rfl,rfl⟩)
    go_ret
    exact⟨bF (by rw[<-g.out,j.out,i.out];rfl),u⟩
   | true=>
    go_wp2_with (first|(go_at_call 54;refine(q _).out.mono ?_;rintro e w' ⟨rfl,rfl⟩)|(go_at_call 77;refine(z.out _ ((ah _ _).alloc (ag _) _)).mono ?_;rintro e c ⟨rfl,v⟩;have x:Below w.heap.size w c:=u.trans (v.mono (by have:=d.size;simp;omega));clear v;cases F))
    ·go_ret
     exact⟨bF (by rw[<-g.out,j.out,i.out];rfl),x⟩
    ·go_roundw
     case rel=>exact⟨k+1,by omega,by go_num,x,by rw[<-g.out,j.out,i.out];rfl⟩
     case measure=>simp[intOf];omega
  ·go_wp2_with fail
   go_ret
   refine⟨bF ?_,d⟩;rw[<-g.out,fJ (by rw[l.out];omega)];rfl
theorem gW(s:ByteArray)(w:World):Calls Tryz.prog 78 #[.string s] w λe w'=>e=.returned (.agg #[.int .i64 2,.int .i64 0,.string s,.slice none 0 0])/\w'=w.alloc (.cells #[.int .i64 2,.int .i64 0,.string s,.slice none 0 0] 30):=by
 go_enter Tryz.func78,Tryz.ntmps78;go_wp2_with fail;exact ao (v:=.agg #[.int .i64 2,.int .i64 0,.string s,.slice none 0 0]) (by simp[results,Tryz.results78,go_sem]) rfl ⟨rfl,rfl⟩
theorem fj(a:Option Addr)(l c:Nat)(w:World):Calls Tryz.prog 80 #[.slice a l c] w λe w'=>e=.returned (.agg #[.int .i64 4,.int .i64 0,.string ⟨#[]⟩,.slice a l c])/\w'=w.alloc (.cells #[.int .i64 4,.int .i64 0,.string ⟨#[]⟩,.slice a l c] 30):=by
 go_enter Tryz.func80,Tryz.ntmps80;go_wp2_with fail;exact ao (v:=.agg #[.int .i64 4,.int .i64 0,.string ⟨#[]⟩,.slice a l c]) (by simp[results,Tryz.results80,go_sem]) rfl ⟨rfl,rfl⟩
def gU(B N:Nat)(c:Tm N)(w:World)(e:Ending)(w':World):Prop:=
 ∃a:Tm N,e=.returned (dg N a)/\Hid (Below w.heap.size w w'/\In w'.heap.size w' N a/\ch (λb=>b<B\/w.heap.size<=b) N a/\aw N a N c=true)
abbrev dQ(n B base:Nat)(xs:List (Tm n))(v:Value)(w0 wr:World):Prop:=eN (λB w x=>In B w n x) (λP x=>ch P n x) (gq n) 4 30 B base xs v w0 wr
theorem mj(n:Nat)(x:Tm n):(gq n x).length=4:=rfl
theorem eO(s:ByteArray)(N:Nat)(a:s.size<=maxLen)(B:Nat)(w:World):In B w (N+1) (aQ s N):=⟨⟨by simp[aQ,dc],by simp[aQ,dc],a,by simp[aQ],by simp[aQ]⟩,ae rfl⟩
theorem FY(k u:Int)(N:Nat)(a:dc k)(b:dc u)(B:Nat)(w:World):In B w (N+1) (aS k u N):=⟨⟨a,b,aD _,by simp[aS],by simp[aS]⟩,ae rfl⟩
theorem np(s:ByteArray)(N:Nat)(P:Nat->Prop):ch P (N+1) (aQ s N):=ae rfl
theorem Cw{n:Nat}{w:World}{b o:Nat}{x:Tm n}{B:Nat}{w0:World}(c:In B w0 n x)(a:∀(j:Nat)(u:Value),(gq n x)[j]?=some u->w.cell? ⟨b,o+j,none⟩=some u):dr w b o n x:=by
 cases n with
 | zero=>exact c.elim
 | succ n=>exact⟨a 0 _ rfl,a 1 _ rfl,a 2 _ rfl,a 3 _ rfl⟩
theorem dQ.tells{B base N:Nat}{xs ys:List (Tm N)}{v:Value}{w w0 wr w':World}(p:dQ N B base xs v w0 wr)(x:w.heap.size<=base)(s:av (λa b=>aw N a N b) xs ys=true)(u:∀b,b<B\/base<=b->b<wr.heap.size->w'.heap[b]?=wr.heap[b]?)(t:wr.heap.size<=w'.heap.size)(g:Below w.heap.size w w'):∃a c,v=.slice a xs.length c/\gU B (N+1) (cM N ys) w (.returned (.agg #[.int .i64 4,.int .i64 0,.string ⟨#[]⟩,.slice a xs.length c])) w':=by
 have j:=dM N;obtain⟨a,c,f,m,n,e⟩:=p.lay j (mj N);refine⟨a,c,f,((4,0,.empty),(a,c),xs),rfl,g,⟨⟨by simp[dc],by simp[dc],aD _,m.1,m.2⟩,?_⟩,?_,bX rfl s⟩
 ·have q:=(bZ j 4 (gq N) a).2.1 _ _ _ _ e n;have r:=(bZ j 4 (gq N) a).2.2.1 _ _ wr w' _ (λb l=>u b l.1 l.2) q n;have d:=(bZ j 4 (gq N) a).2.2.2.1 _ _ _ _ t r;rcases d with d|⟨b,o,f,g,d⟩
  ·exact ae d
  ·exact af ⟨b,o,f,g,λk i h=>⟨Cw (d k i h).2 (d k i h).1,(d k i h).2⟩⟩
 ·rcases e with e|⟨b,o,f,g,e⟩
  ·exact ae e
  ·exact af ⟨b,o,f,by omega,λk i h=>(e i (ay h)).mono λb g=>by omega⟩
theorem nL{B N:Nat}(xs:List (Tm N)){w w1 w':World}{cs:Array Value}{g L:Nat}(a:Below w.heap.size w w1)(r:g=w1.heap.size)(p:L=xs.length)(e:Below (w1.alloc (.cells cs 30)).heap.size (w1.alloc (.cells cs 30)) w')(q:cs.toList=xs.flatMap (gq N))(u:xs.length<=8)(i:B<=w.heap.size)(f:∀y∈xs,In B w N y):gU B (N+1) (cM N xs) w (.returned (.agg #[.int .i64 4,.int .i64 0,.string ⟨#[]⟩,.slice (some ⟨g,0,none⟩) L L])) w':=by
 have o:=eN.lit (T:=30) (k:=4) (B:=B) (base:=w1.heap.size) (dM N) xs (w0:=w1) q (mj N) (by unfold maxLen;omega) (ag _) (ah _ _) (λy d=>⟨((f y d).below (a.mono i)).mono (au i a.size),(nA (f y d)).mono λb h=>ae h⟩);have j:Below w.heap.size w (w1.alloc (.cells cs 30)):=a.trans (((ah _ _).alloc (ag _) _).mono a.size);obtain⟨s,c,l,k⟩:=dQ.tells o a.size (kv _ _ λy d=>kL (f y d)) (λb _ h=>e.block b h) e.size (j.trans (e.mono j.size));injection l with m t n;subst m n p r;exact k
theorem gh{w:World}{a b c:Obj}:Below w.heap.size w (((w.alloc a).alloc b).alloc c)/\w.heap.size+1+1+1=(((w.alloc a).alloc b).alloc c).heap.size:=
 ⟨(((ah _ _).alloc (ag _) _).alloc (by simp) _).alloc (by simp;omega) _,by simp⟩
theorem rn{w:World}{a b c d:Obj}:Below w.heap.size w ((((w.alloc a).alloc b).alloc c).alloc d)/\w.heap.size+1+1+1+1=((((w.alloc a).alloc b).alloc c).alloc d).heap.size:=
 ⟨((((ah _ _).alloc (ag _) _).alloc (by simp) _).alloc (by simp;omega) _).alloc (by simp;omega) _,by simp⟩
theorem tI{w:World}{o:Obj}:Below w.heap.size w (w.alloc o).drew:=((ah _ _).alloc (ag _) _).drew
theorem aG{w:World}{o:Obj}:Below w.heap.size w (w.alloc o):=(ah _ _).alloc (ag _) _
theorem gF(s:ByteArray)(a:s.size<=8):s.size<=maxLen:=by unfold maxLen;omega
theorem xw(n:Nat)(t x:Tm (n+1))(s:ByteArray)(v:Int)(B:Nat)(w:World)(b:In B w (n+1) t)(c:In B w (n+1) x)(h:B<=w.heap.size):Calls Tryz.prog 141 #[.agg #[.int .i64 1,.int .i64 t.1.1,.int .i64 t.1.2.1,.string t.1.2.2,.slice t.2.1.1 t.2.2.length t.2.1.2,.int .i64 x.1.1,.int .i64 x.1.2.1,.string x.1.2.2,.slice x.2.1.1 x.2.2.length x.2.1.2,.string s,.int .i64 v]] w (gU B (n+2) (cM (n+1) [aQ iP n,t,x]) w):=by
 have f:Hid (∀e∈[aQ iP n,t,x],In B w (n+1) e):=λe d=>by
  simp only[br,dv,dx]at d;rcases d with rfl|rfl|rfl
  ·exact eO _ _ (gF _ (by decide)) _ _
  ·exact b
  ·exact c
 clear b c;go_enter Tryz.func141,Tryz.ntmps141;go_wp2_with fail
 go_region_held3 (λa=>(a.cell? ⟨w.heap.size,1,none⟩=some (.int .i64 t.1.1)/\a.cell? ⟨w.heap.size,2,none⟩=some (.int .i64 t.1.2.1)/\a.cell? ⟨w.heap.size,3,none⟩=some (.string t.1.2.2)/\a.cell? ⟨w.heap.size,4,none⟩=some (.slice t.2.1.1 t.2.2.length t.2.1.2))/\
     (a.cell? ⟨w.heap.size,5,none⟩=some (.int .i64 x.1.1)/\a.cell? ⟨w.heap.size,6,none⟩=some (.int .i64 x.1.2.1)/\a.cell? ⟨w.heap.size,7,none⟩=some (.string x.1.2.2)/\a.cell? ⟨w.heap.size,8,none⟩=some (.slice x.2.1.1 x.2.2.length x.2.1.2))) (first|(go_keep;done)|(simp[go_sem];done))
  ((first|(go_at_call 78;refine(gW _ _).mono ?_;rintro g i ⟨rfl,rfl⟩)|(go_at_call 80;refine(fj _ _ _ _).mono ?_;rintro g i ⟨rfl,rfl⟩)))
 go_wp2_with fail;exact ao (v:=.agg #[.int .i64 4,.int .i64 0,.string ⟨#[]⟩,.slice (some ⟨w.heap.size+1+1+1,0,none⟩) 3 3]) (by simp[results,Tryz.results141,go_sem]) rfl (nL [aQ iP n,t,x] gh.1 gh.2 rfl tI rfl (by simp) h f.out)
theorem xv(n:Nat)(t x:Tm (n+1))(s:ByteArray)(v:Int)(B:Nat)(w:World)(b:In B w (n+1) t)(g:B<=w.heap.size):Calls Tryz.prog 141 #[.agg #[.int .i64 3,.int .i64 t.1.1,.int .i64 t.1.2.1,.string t.1.2.2,.slice t.2.1.1 t.2.2.length t.2.1.2,.int .i64 x.1.1,.int .i64 x.1.2.1,.string x.1.2.2,.slice x.2.1.1 x.2.2.length x.2.1.2,.string s,.int .i64 v]] w (gU B (n+2) (cM (n+1) [aQ mA n,t]) w):=by
 have e:Hid (∀d∈[aQ mA n,t],In B w (n+1) d):=λd c=>by
  simp only[br,dv,dx]at c;rcases c with rfl|rfl
  ·exact eO _ _ (gF _ (by decide)) _ _
  ·exact b
 clear b;go_enter Tryz.func141,Tryz.ntmps141;go_wp2_with fail
 go_region_held3 (λa=>a.cell? ⟨w.heap.size,1,none⟩=some (.int .i64 t.1.1)/\a.cell? ⟨w.heap.size,2,none⟩=some (.int .i64 t.1.2.1)/\a.cell? ⟨w.heap.size,3,none⟩=some (.string t.1.2.2)/\a.cell? ⟨w.heap.size,4,none⟩=some (.slice t.2.1.1 t.2.2.length t.2.1.2)) (first|(go_keep;done)|(simp[go_sem];done))
  ((first|(go_at_call 78;refine(gW _ _).mono ?_;rintro f h ⟨rfl,rfl⟩)|(go_at_call 80;refine(fj _ _ _ _).mono ?_;rintro f h ⟨rfl,rfl⟩)))
 go_wp2_with fail;exact ao (v:=.agg #[.int .i64 4,.int .i64 0,.string ⟨#[]⟩,.slice (some ⟨w.heap.size+1+1+1,0,none⟩) 2 2]) (by simp[results,Tryz.results141,go_sem]) rfl (nL [aQ mA n,t] gh.1 gh.2 rfl tI rfl (by simp) g e.out)
theorem xx(n:Nat)(K:Int)(g:(K==1)=false)(h:(K==2)=false)(i:(K==3)=false)(t x:Tm (n+1))(s:ByteArray)(v:Int)(B:Nat)(w:World)(e:B<=w.heap.size):Calls Tryz.prog 141 #[.agg #[.int .i64 K,.int .i64 t.1.1,.int .i64 t.1.2.1,.string t.1.2.2,.slice t.2.1.1 t.2.2.length t.2.1.2,.int .i64 x.1.1,.int .i64 x.1.2.1,.string x.1.2.2,.slice x.2.1.1 x.2.2.length x.2.1.2,.string s,.int .i64 v]] w (gU B (n+2) (cM (n+1) [aQ mB n]) w):=by
 have c:Hid (∀b∈[aQ mB n],In B w (n+1) b):=λb a=>by
  simp only[br,dv,dx]at a;subst a;exact eO _ _ (gF _ (by decide)) _ _
 go_enter Tryz.func141,Tryz.ntmps141;go_wp2_with (first|(go_at_call 78;refine(gW _ _).mono ?_;rintro d f ⟨rfl,rfl⟩)|(go_at_call 80;refine(fj _ _ _ _).mono ?_;rintro d f ⟨rfl,rfl⟩));exact ao (v:=.agg #[.int .i64 4,.int .i64 0,.string ⟨#[]⟩,.slice (some ⟨w.heap.size+1+1+1,0,none⟩) 1 1]) (by simp[results,Tryz.results141,go_sem]) rfl (nL [aQ mB n] gh.1 gh.2 rfl aG rfl (by simp) e c.out)
theorem uG(n:Nat)(t x:Tm (n+1))(s:ByteArray)(v:Int)(c:dc v)(b:s.size<=maxLen)(B:Nat)(w:World)(d:In B w (n+1) x)(i:B<=w.heap.size):Calls Tryz.prog 141 #[.agg #[.int .i64 2,.int .i64 t.1.1,.int .i64 t.1.2.1,.string t.1.2.2,.slice t.2.1.1 t.2.2.length t.2.1.2,.int .i64 x.1.1,.int .i64 x.1.2.1,.string x.1.2.2,.slice x.2.1.1 x.2.2.length x.2.1.2,.string s,.int .i64 v]] w (gU B (n+2) (cM (n+1) [aQ jj n,aQ s n,x,aS 5 v n]) w):=by
 have g:Hid (∀f∈[aQ jj n,aQ s n,x,aS 5 v n],In B w (n+1) f):=λf e=>by
  simp only[br,dv,dx]at e;rcases e with rfl|rfl|rfl|rfl
  ·exact eO _ _ (gF _ (by decide)) _ _
  ·exact eO _ _ b _ _
  ·exact d
  ·exact FY _ _ _ (by simp[dc]) c _ _
 clear d b c;go_enter Tryz.func141,Tryz.ntmps141;go_wp2_with fail
 go_region_held3 (λa=>(a.cell? ⟨w.heap.size,9,none⟩=some (.string s)/\a.cell? ⟨w.heap.size,10,none⟩=some (.int .i64 v))/\
     (a.cell? ⟨w.heap.size,5,none⟩=some (.int .i64 x.1.1)/\a.cell? ⟨w.heap.size,6,none⟩=some (.int .i64 x.1.2.1)/\a.cell? ⟨w.heap.size,7,none⟩=some (.string x.1.2.2)/\a.cell? ⟨w.heap.size,8,none⟩=some (.slice x.2.1.1 x.2.2.length x.2.1.2))) (first|(go_keep;done)|(simp[go_sem];done))
  ((first|(go_at_call 78;refine(gW _ _).mono ?_;rintro h j ⟨rfl,rfl⟩)|(go_at_call 80;refine(fj _ _ _ _).mono ?_;rintro h j ⟨rfl,rfl⟩)))
 all_goals go_wp2_with fail
 all_goals exact ao (v:=.agg #[.int .i64 4,.int .i64 0,.string ⟨#[]⟩,.slice (some ⟨w.heap.size+1+1+1+1,0,none⟩) 4 4]) (by simp[results,Tryz.results141,go_sem]) rfl (nL [aQ jj n,aQ s n,x,aS 5 v n] rn.1 rn.2 rfl tI rfl (by simp) i g.out)
theorem Ab(n:Nat)(a:Ac (n+1))(B:Nat)(w:World)(o:gQ (n+1) B w a)(c:B<=w.heap.size):Calls Tryz.prog 141 #[.agg (fy (n+1) a).toArray] w (gU B (n+2) (de n a) w):=by
 obtain⟨b,⟨t,f⟩,d,e⟩:=a;obtain⟨p,j,k,l,m⟩:=o;unfold de;by_cases g:b=1
 ·subst g;exact xw n t f d e B w j k c
 by_cases h:b=2
 ·subst h;exact uG n t f d e m l B w k c
 by_cases i:b=3
 ·subst i;exact xv n t f d e B w j c
 ·simp only[g,h,i,if_false];exact xx n b (by simpa using g) (by simpa using h) (by simpa using i) t f d e B w c
end Go.Proofs.YtnidfceinoiboaaGreat
