/- What is proved here: plain facts and contracts that the claimed theorem stands on. No condition but those that each names. -/
import Derived.Test.YtckamaoibonjcaaGreatG18
namespace Go.Proofs.YtckamaoibonjcaaGreat
open Go.RowKit Go.Maps
open Go.RowKit
set_option maxHeartbeats 2000000
set_option maxRecDepth 100000
theorem Bz{w w1:World}{vs:List Wd}{a:Option Addr}(c:eq w vs a)(d:ag w w1):eq w1 vs a:=by
 rcases c with c|⟨b,o,i,e,c⟩
 ·exact ae c
 ·exact af ⟨b,o,i,aJ e d.size,λg h f=>⟨(am d b _ e).trans (c g h f).1,(am d b _ e).trans (c g h f).2⟩⟩
def Dz(ws:List Wd)(nm:List ByteArray)(n:Nat)(vs:List Wd)(p:List (Tm n)):Prop:=
 ge ws nm n vs p/\(∀a∈p,av ⟨n,a⟩)/\(∀a∈p,aF n a=true)/\(p.map λa=>1+sz n a).sum<=90000/\(p.flatMap λa=>ar n a).length<=90000/\vs.length<=1000
def jq(ws:List Wd)(n:Nat)(vs:List Wd):List Wd×List Wd×cO:=gq (jm ws n) vs ([],[])
theorem Dz.all{ws:List Wd}{nm:List ByteArray}{n:Nat}{vs:List Wd}{p:List (Tm n)}(b:Dz ws nm n vs p)(g:ws.length<=1000)(f:nm.length<=50000):vs.all (cC ws nm)=true/\∀v∈vs,dh v.2:=by
 have key:∀v∈vs,cC ws nm v=true/\dh v.2:=λv a=>by
  obtain⟨d,c,e⟩:=b.1.mem a;exact Bc e (b.2.1 d c) (b.2.2.1 d c) (by omega) (by omega)
 exact⟨bX.2 λv a=>(key v a).1,λv a=>(key v a).2⟩
def wZ(base:Nat)(a:cg)(room:Int)(R:List Wd×List Wd×cO)(nm:List ByteArray)(M:Nat->Prop)(g:Nat)(w w':World):Prop:=
 du base a room R.2.1 nm (λb=>(M b\/w.heap.size<=b)/\b≠g) w'/\bL M w w'/\eq w' R.1 (some ⟨g,0,none⟩)/\w.heap.size<=g/\g<w'.heap.size/\∃len,w'.ownsRow g 105 2 (.slice (some ⟨g,0,none⟩) len len) len (aS R.1)
theorem wX{w:World}{g base len:Nat}{vs:List Wd}(a:w.ownsRow base 105 2 (.slice (some ⟨g,0,none⟩) len len) len (aS vs)):eq w vs (some ⟨g,0,none⟩)/\g<w.heap.size:=by
 refine⟨af ⟨g,0,rfl,(a.lt g rfl).2,λc d b=>?_⟩,(a.lt g rfl).2⟩;have:=iA a c d b;rw[cN];exact this
theorem He{base:Nat}{d:cg}{room:Int}{ws:List Wd}{nm:List ByteArray}{M:Nat->Prop}{R:List Wd×List Wd×cO}{len g:Nat}{tv:Value}{w w1 w2:World}(j:du base d room ws nm M w)(h:ag w w1)(p:kh R len g tv w1 w2)(t:base<=w.heap.size):wZ base d room R nm M g w (w2.setCell ⟨d.b,d.o+1,none⟩ tv):=by
 have u:=zB j h p t;obtain⟨z,q,i,F,B⟩:=p;have v:=h.size;have s:=h.trans (z.mono v);obtain⟨G,x,y,e,C,f,l,D,m,n⟩:=j.later s;have k:=aZ w2 d.b (d.o+1) tv;have r:∀b,tv.ownBlock=some b->w1.heap.size<=b:=λb a=>(q.lt b a).1;have E:d.b<w.heap.size:=l.2;refine⟨⟨tv,x,y,e.set1 tv,dJ (qE q (by omega)) k (λb a c=>?_),f.kept k (λb a c=>?_) (λb a c=>?_),⟨ae l.1,by omega⟩,λb a=>⟨af (by have:=r b a;omega),λc=>B (by rw[a,c])⟩,λb a=>⟨ae (m b a).1,by have:=(m b a).2;omega⟩,λb a=>⟨ae (n b a).1,by have:=(n b a).2;omega⟩⟩,u.2,?_,by omega,?_,?_⟩
 ·subst c;have:=r _ a;omega
 ·subst c;exact mH f.1 e (by decide) a
 ·subst c;exact s8 f e a
 ·have A:=dJ i k (λb a c=>by
    subst c;simp only[Value.ownBlock]at a;have:=aq a
    omega)
  exact(wX A).1
 ·have:=(wX i).2;simpa [World.setCell]using this
 ·exact⟨len,dJ i k (λb a c=>by
    subst c;simp only[Value.ownBlock]at a;have:=aq a
    omega)⟩
theorem xK(n:Nat)(p:List (Tm n))(vs:List Wd)(a:Option Addr)(pc base:Nat)(f:cg)(room:Int)(ws:List Wd)(nm:List ByteArray)(M:Nat->Prop)(w:World)(j:du base f room ws nm M w)(d:Dz ws nm n vs p)(r:eq w vs a)(C:∀b o,a=some ⟨b,o,none⟩->b<w.heap.size)(z:base<=w.heap.size)(E:ws.length<=1000)(D:nm.length<=50000):ah 165 #[.pointer (some ⟨f.b,f.o,none⟩),.slice a vs.length pc] w λe w'=>∃g,e=.returned (.tuple #[.slice (some ⟨g,0,none⟩) vs.length vs.length,.int .i64 0])/\Hid (wZ base f room (jq ws n vs) nm M g w w'):=by
 obtain⟨y,B⟩:=d.all E D;obtain⟨t,P,Q,m,q,J,K,L,N,O⟩:=id j;obtain⟨⟨F,v,G,H⟩,A⟩:=m.cells;obtain⟨h,i,rfl⟩:∃h i,t=.slice h ws.length i:=by
  rcases q.2 with⟨e,x⟩|⟨g,c,I,e,_⟩
  ·exact⟨none,0,by rw[e,x]⟩
  ·exact⟨_,c,e⟩
 refine(xy (jq ws n vs) f h ws.length i a vs.length pc w m.lt v (A _) ?_ ?_).mono ?_
 ·have s:=xj base f room ws nm M vs a vs.length pc w j (by omega) rfl (by have:=d.2.2.2.2.2;omega) r B;rw[y]at s;exact s
 ·intro u k;refine AR ws nm n vs p base (.slice h ws.length i) a pc u (dE q k) d.1 d.2.1 (by omega) (by have:=d.2.2.2.2.2;omega) d.2.2.2.1 d.2.2.2.2.1 (Bz r k) ?_;intro b o e;exact aJ (C b o e) k.size
 ·rintro e w' ⟨g,t,u,R,rfl,rfl,l⟩;exact⟨g,rfl,He j l.out.1 l.out.2 z⟩
def od(ws:List Wd):Nat->Wd->List Nat
 | 0,_=> []
 | n+1,v=>if v.1=4 then
    match ws[v.2.toNat]? with
    | some a=>v.2.toNat::(bY ws v.2.toNat a.2.toNat).flatMap (od ws n)
    | none=> []
  else []
theorem lM{ws:List Wd}{n:Nat}{v:Wd}(a:v.1≠4):od ws n v=[]:=by
 cases n with
 | zero=>rfl
 | succ n=>simp[od,a]
theorem qG{ws:List Wd}{n p m:Nat}(a:ws[p]?=some (0,(m:Int))):od ws (n+1) (4,(p:Int))=p::(bY ws p m).flatMap (od ws n):=by
 simp[od,a]
theorem vZ{nm:List ByteArray}{s:ByteArray}(a:s∈nm):ei nm s=nm:=by
 unfold ei;rw[if_pos ((xV nm s).2 a)]
theorem zC{ws:List Wd}{nm:List ByteArray}{n:Nat}(ih:∀(x:Tm n)(v:Wd)(S:List Wd×cO),dv ws nm n x v->(od ws n v).Nodup->(∀p∈od ws n v,look S.2 p=none)->((jm ws n v S).1=(aO n x S.1 nm).1/\(jm ws n v S).2.1=(aO n x S.1 nm).2.1/\(aO n x S.1 nm).2.2=nm)/\∀p,look (jm ws n v S).2.2 p=none ↔ look S.2 p=none/\p∉od ws n v):(us:List Wd)->(ys:List (Tm n))->ge ws nm n us ys->(S:List Wd×cO)->(us.flatMap (od ws n)).Nodup->(∀p∈us.flatMap (od ws n),look S.2 p=none)-> ((gq (jm ws n) us S).1=(bB (aO n) ys S.1 nm).1/\(gq (jm ws n) us S).2.1=(bB (aO n) ys S.1 nm).2.1/\(bB (aO n) ys S.1 nm).2.2=nm)/\∀p,look (gq (jm ws n) us S).2.2 p=none ↔ look S.2 p=none/\p∉us.flatMap (od ws n)
 | us,ys,a,S,hn,hl=>by
  induction us generalizing ys S with
  | nil=>
   obtain rfl:ys=[]:=by have:=a.1;cases ys with|nil=>rfl|cons e l=>simp at this
   simp[gq,bB]
  | cons v us z=>
   cases ys with
   | nil=>have:=a.1;simp at this
   | cons d ys=>
    have r:dv ws nm n d v:=a.2 0 v d (by simp) (by simp);have w:ge ws nm n us ys:=⟨by have:=a.1;simpa using this,λy e b s t=>a.2 (y+1) e b (by simpa using s) (by simpa using t)⟩;rw[bv]at hn hl;obtain⟨A,B,C⟩:=eQ.1 hn;obtain⟨⟨g,h,i⟩,f⟩:=ih d v S r A (λp c=>hl p (List.mem_append_left _ c));have u:∀p∈us.flatMap (od ws n),look (jm ws n v S).2.2 p=none:=λp c=>(f p).2 ⟨hl p (List.mem_append_right _ c),λq=>C p q p c rfl⟩;obtain⟨⟨j,k,m⟩,o⟩:=z ys w (jm ws n v S).2 B u;simp only[gq,bB];rw[i,<-h];refine⟨⟨by rw[g,j],k,m⟩,λp=>?_⟩;rw[o p,f p,bv,cU,not_or,and_assoc]
theorem DM{ws:List Wd}{nm:List ByteArray}(g:nm.Nodup):(n:Nat)->(x:Tm n)->(v:Wd)->(S:List Wd×cO)->dv ws nm n x v->(od ws n v).Nodup->(∀p∈od ws n v,look S.2 p=none)-> ((jm ws n v S).1=(aO n x S.1 nm).1/\(jm ws n v S).2.1=(aO n x S.1 nm).2.1/\(aO n x S.1 nm).2.2=nm)/\∀p,look (jm ws n v S).2.2 p=none ↔ look S.2 p=none/\p∉od ws n v
 | 0,_,_,_,h,_,_=>h.elim
 | n+1,x,v,S,h,hn,hl=>by
  by_cases b:x.1.1=4
  ·obtain⟨p,rfl,i,u,s⟩:=iX h b;rw[qG i]at hn hl ⊢;have o:=hl p (by simp);rw[xB o i];have r:=mf.1 hn;obtain⟨⟨k,f,l⟩,m⟩:=zC (λx v S=>DM g n x v S) (bY ws p x.2.2.length) x.2.2 s S r.2 (λq c=>hl q (bI _ c));have e:aO (n+1) x S.1 nm=((4,((bB (aO n) x.2.2 S.1 nm).2.1.length:Int)),(bB (aO n) x.2.2 S.1 nm).2.1++(0,(x.2.2.length:Int))::(bB (aO n) x.2.2 S.1 nm).1,(bB (aO n) x.2.2 S.1 nm).2.2):=by
    simp only[aO];rw[if_neg (by omega),if_pos b]
   rw[e];refine⟨⟨by rw[f],by rw[k,f],l⟩,λq=>?_⟩;by_cases c:q=p
   ·subst c;rw[rA];simp
   ·rw[pB _ _ c,m q];simp[c]
  ·have j:=ik h b;rw[tL j,lM j];refine⟨⟨?_,?_,?_⟩,λq=>by simp⟩
   ·simp only[aO];by_cases a:x.1.1=2
    ·rw[if_pos a];obtain⟨t,rfl,d⟩:=h.1 a;rw[vZ (aC d),Aw g d]
    ·rw[if_neg a,if_neg b];exact h.2.2 a b
   ·simp only[aO];split
    ·rfl
    ·rfl
   ·simp only[aO];split
    ·rename_i a;obtain⟨t,rfl,d⟩:=h.1 a;exact vZ (aC d)
    ·rfl
theorem CM{ws a:List Wd}(b:ws <+:a){p m:Nat}(c:p+1+m<=ws.length):bY a p m=bY ws p m:=by
 obtain⟨t,rfl⟩:=b;unfold bY;rw[ou (by omega),jg (by rw[eC];omega)]
theorem K6{ws b:List Wd}(c:ws <+:b){p:Nat}{v:Wd}(a:ws[p]?=some v):b[p]?=some v:=by
 obtain⟨t,rfl⟩:=c;rw[de (aL.1 a).1];exact a
theorem mA{c e:Type}{f g:c->List e}:{l:List c}->(∀a∈l,f a=g a)->l.flatMap f=l.flatMap g
 | [],_=>rfl
 | a::l,h=>by rw[bv,bv,h a (by simp),mA (l:=l) λb d=>h b (by simp[d])]
theorem qF{ws d:List Wd}{nm:List ByteArray}(b:ws <+:d):(n:Nat)->(x:Tm n)->(v:Wd)->dv ws nm n x v->od d n v=od ws n v
 | 0,_,_,h=>h.elim
 | n+1,x,v,h=>by
  by_cases a:x.1.1=4
  ·obtain⟨p,rfl,c,e,f⟩:=iX h a;rw[qG c,qG (K6 b c),CM b e];congr 1;refine mA λj g=>?_;obtain⟨y,_,i⟩:=f.mem g;exact qF b n y j i
  ·rw[lM (ik h a),lM (ik h a)]
theorem yd{ws:List Wd}{nm:List ByteArray}:(n:Nat)->(x:Tm n)->(v:Wd)->dv ws nm n x v->∀p∈od ws n v,p<ws.length
 | 0,_,_,h,_,_=>h.elim
 | n+1,x,v,h,q,a=>by
  by_cases b:x.1.1=4
  ·obtain⟨p,rfl,c,i,d⟩:=iX h b;rw[qG c,cv,jd]at a;rcases a with rfl|⟨g,e,a⟩
   ·omega
   ·obtain⟨y,_,f⟩:=d.mem e;exact yd n y g f q a
  ·rw[lM (ik h b)]at a;cases a
theorem uc{n:Nat}(ih:∀(x:Tm n)(ws:List Wd)(nm:List ByteArray),av ⟨n,x⟩->(od (aO n x ws nm).2.1 n (aO n x ws nm).1).Nodup/\∀p∈od (aO n x ws nm).2.1 n (aO n x ws nm).1,ws.length<=p):(l:List (Tm n))->(ws:List Wd)->(nm:List ByteArray)->(∀y∈l,av ⟨n,y⟩)->((bB (aO n) l ws nm).1.flatMap (od (bB (aO n) l ws nm).2.1 n)).Nodup/\∀p∈(bB (aO n) l ws nm).1.flatMap (od (bB (aO n) l ws nm).2.1 n),ws.length<=p
 | [],_,_,_=>by simp[bB]
 | y::l,ws,nm,hr=>by
  have f:=ih y ws nm (hr y (by simp));have g:=gt n y ws nm (hr y (by simp));have d:=uc ih l (aO n y ws nm).2.1 (aO n y ws nm).2.2 (λo m=>hr o (by simp[m]));have c:=(qt (λx ws nm=>lG n x ws nm) l (aO n y ws nm).2.1 (aO n y ws nm).2.2).1;have k:=qF c n y _ g;have j:=yd n y _ g;have q:=(lG n y ws nm).1.length_le;simp only[bB,bv];rw[k];refine⟨eQ.2 ⟨f.1,d.1,λa h b i e=>?_⟩,λp c=>?_⟩
  ·have:=j a h;have:=d.2 b i;omega
  ·rcases cU.1 c with c|c
   ·exact f.2 p c
   ·have:=d.2 p c;omega
theorem xO:(n:Nat)->(x:Tm n)->(ws:List Wd)->(nm:List ByteArray)->av ⟨n,x⟩->(od (aO n x ws nm).2.1 n (aO n x ws nm).1).Nodup/\∀p∈od (aO n x ws nm).2.1 n (aO n x ws nm).1,ws.length<=p
 | 0,_,_,_,h=>(cY h).elim
 | n+1,x,ws,nm,h=>by
  by_cases q:x.1.1=4
  ·have e:aO (n+1) x ws nm=((4,((bB (aO n) x.2.2 ws nm).2.1.length:Int)),(bB (aO n) x.2.2 ws nm).2.1++(0,(x.2.2.length:Int))::(bB (aO n) x.2.2 ws nm).1,(bB (aO n) x.2.2 ws nm).2.2):=by
     simp only[aO];rw[if_neg (by omega),if_pos q]
   have r:∀o∈x.2.2,av ⟨n,o⟩:=λo B=>aN n x o h B;have k:=uc (λx ws nm l=>xO n x ws nm l) x.2.2 ws nm r;have A:=(qt (λx ws nm=>lG n x ws nm) x.2.2 ws nm).1.length_le;have s:=nu (λx ws nm l=>gt n x ws nm l) x.2.2 ws nm r;have v:=gu (aO n) x.2.2 ws nm;rw[e];generalize (bB (aO n) x.2.2 ws nm).2.1=c at*;generalize (bB (aO n) x.2.2 ws nm).1=d at*;generalize (bB (aO n) x.2.2 ws nm).2.2=D at*;have t:(c++(0,(x.2.2.length:Int))::d)[c.length]?=some (0,(x.2.2.length:Int)):=by simp
   have z:bY (c++(0,(x.2.2.length:Int))::d) c.length x.2.2.length=d:=by rw[<-v];exact FO (fX _)
   have y:d.flatMap (od (c++(0,(x.2.2.length:Int))::d) n)=d.flatMap (od c n):=mA λm j=>by
    obtain⟨i,f⟩:=cM j;have u:=(aL.1 f).1;obtain⟨C,b,g⟩:=s i (x.2.2[i]'(by omega)) (aD _);rw[f]at b;injection b with b;subst b;exact qF (oB _ _) n _ m g
   have w:∀p∈d.flatMap (od c n),p<c.length:=λp a=>by
    obtain⟨m,j,a⟩:=jd.1 a;obtain⟨i,f⟩:=cM j;have u:=(aL.1 f).1;obtain⟨C,b,g⟩:=s i (x.2.2[i]'(by omega)) (aD _);rw[f]at b;injection b with b;subst b;exact yd n _ m g p a
   simp only;rw[qG t,z,y];refine⟨mf.2 ⟨λa=>by have:=w _ a;omega,k.1⟩,λp a=>?_⟩;rcases cv.1 a with rfl|a
   ·exact A
   ·exact k.2 p a
  ·have g:=gt (n+1) x ws nm h;rw[lM (ik g q)];simp
theorem Ai(n:Nat):(l:List (Tm n))->(ws:List Wd)->(nm:List ByteArray)->((bB (aO n) l ws nm).2.1.length:Int)=ws.length+(l.map (sz n)).sum
 | [],_,_=>by simp[bB]
 | y::l,ws,nm=>by
  have a:=(ij n y ws nm).1;have b:=Ai n l (aO n y ws nm).2.1 (aO n y ws nm).2.2;simp only[bB,aH,bq];omega
theorem CW{ws:List Wd}{nm:List ByteArray}(d:nm.Nodup){n:Nat}{vs:List Wd}{p:List (Tm n)}(b:ge ws nm n vs p)(c:(vs.flatMap (od ws n)).Nodup):(jq ws n vs).1=(bB (aO n) p [] nm).1/\(jq ws n vs).2.1=(bB (aO n) p [] nm).2.1/\(bB (aO n) p [] nm).2.2=nm:=
 (zC (λf e a=>DM d n f e a) vs p b ([],[]) c (λ_ _=>rfl)).1
def mU:ByteArray:=⟨#[99,111,100,101]⟩
def sT:ByteArray:=⟨#[98,101,104]⟩
def JW:ByteArray:=⟨#[111,110]⟩
def lT:ByteArray:=⟨#[115,101,110,100]⟩
def iz:ByteArray:=⟨#[115,112,97,119,110]⟩
def lS:ByteArray:=⟨#[108,105,110,107]⟩
def kU:ByteArray:=⟨#[115,116,111,112]⟩
def ex(n:Nat)(x:Tm n):Bool:=(fQ n x).1.1==0 && (fQ n x).1.2.1==0 && (fQ n x).1.2.2.toList.isEmpty && ((fQ n x).2.2.1:Int)==0
def vj(s:ByteArray)(v:Int):Bool:=s.toList.isEmpty && v==0
def mW(n:Nat)(a:Ac n):Bool:=
 if a.1=1 then vj a.2.2.1 a.2.2.2
 else if a.1=2 then ex n a.2.1.1 && dC a.2.2.1 && decide (0<=a.2.2.2) && decide (a.2.2.2<4)
 else if a.1=3 then ex n a.2.1.2 && vj a.2.2.1 a.2.2.2
 else if a.1=4 then ex n a.2.1.1 && ex n a.2.1.2 && vj a.2.2.1 a.2.2.2
 else false
def sE(n:Nat)(c:Cl n):Bool:=decide ((c.2.2.length:Int)<=8) && c.2.2.all (mW n)
def vd(n:Nat)(b:Bh n):Bool:=dC b.1 && decide (1<=(b.2.2.length:Int)) && decide ((b.2.2.length:Int)<=6) && b.2.2.all (sE n)
def jP(n:Nat)(l:List (Bh n)):Bool:=decide (1<=(l.length:Int)) && decide ((l.length:Int)<=7) && l.all (vd n)
def aU(s:ByteArray)(N:Nat):Tm (N+1):=((2,0,s),(none,0),[])
def bU(n:Nat)(a:Ac (n+1)):Tm (n+2):=
 if a.1=1 then cR (n+1) [aU lT n,a.2.1.1,a.2.1.2]
 else if a.1=2 then cR (n+1) [aU iz n,aU a.2.2.1 n,a.2.1.2,bF 5 a.2.2.2 n]
 else if a.1=3 then cR (n+1) [aU lS n,a.2.1.1]
 else cR (n+1) [aU kU n]
def dp(n:Nat)(c:Cl (n+1)):Tm (n+4):=
 cR (n+3) [aU JW (n+2),aK (n+3) (n+1) c.1.1,aK (n+3) (n+1) c.1.2.1,cR (n+2) (c.2.2.map (bU n)),aK (n+3) (n+1) c.1.2.2]
def dz(n:Nat)(b:Bh (n+1)):Tm (n+5):=cR (n+4) (aU sT (n+3)::aU b.1 (n+3)::b.2.2.map (dp n))
def bR(n:Nat)(l:List (Bh (n+1))):Tm (n+6):=cR (n+5) (aU mU (n+4)::l.map (dz n))
def eu{a b:Type}(R:a->b->Prop)(l:List a)(r:List b):Prop:=l.length=r.length/\∀(i:Nat)(x:a)(y:b),l[i]?=some x->r[i]?=some y->R x y
theorem eu.nil{b c:Type}{R:b->c->Prop}:eu R [] []:=⟨rfl,λi x y a=>by simp at a⟩
theorem eu.snoc{g h:Type}{R:g->h->Prop}{l:List g}{r:List h}(d:eu R l r){x:g}{y:h}(k:R x y):eu R (l++ [x]) (r++ [y]):=by
 refine⟨by simp[d.1],λf j b a c=>?_⟩;by_cases i:f<l.length
 ·rw[de i]at a;rw[de (by rw[<-d.1];exact i)]at c;exact d.2 f j b a c
 ·rw[dZ (by omega)]at a;rw[dZ (by rw[<-d.1];omega)]at c;have e:f-l.length=0:=by
   by_cases e:f-l.length=0
   ·exact e
   ·rw[ed (by simp;omega)]at a;cases a
  rw[<-d.1,e]at c;rw[e]at a;simp at a c;rw[<-a,<-c];exact k
theorem eu.tail{c d:Type}{R:c->d->Prop}{x:c}{y:d}{l:List c}{r:List d}(a:eu R (x::l) (y::r)):R x y/\eu R l r:=
 ⟨a.2 0 x y (by simp) (by simp),by simpa using a.1,λh e b f g=>a.2 (h+1) e b (by simpa using f) (by simpa using g)⟩
theorem eu.all{a b:Type}{R:a->b->Prop}(f:a->Bool)(g:b->Bool)(c:∀x y,R x y->f x=g y):(l:List a)->(r:List b)->eu R l r->l.all f=r.all g
 | [],[],_=>rfl
 | [],_::_,h=>by have:=h.1;simp at this
 | _::_,[],h=>by have:=h.1;simp at this
 | x::l,y::r,h=>by
  simp only[iE,c x y h.tail.1,eu.all f g c l r h.tail.2]
theorem eu.same{c d:Type}{R:c->d->Prop}{n m:Nat}(f:c->Tm n)(g:d->Tm m)(e:∀x y,R x y->au n (f x) m (g y)=true):(l:List c)->(r:List d)->eu R l r->az (λa b=>au n a m b) (l.map f) (r.map g)=true
 | [],[],_=>rfl
 | [],_::_,h=>by have:=h.1;simp at this
 | _::_,[],h=>by have:=h.1;simp at this
 | x::l,y::r,h=>by
  simp only[aH,az,ay];exact⟨e x y h.tail.1,eu.same f g e l r h.tail.2⟩
def BM(n:Nat)(a b:Ac n):Prop:=a.1=b.1/\au n a.2.1.1 n b.2.1.1=true/\au n a.2.1.2 n b.2.1.2=true/\a.2.2=b.2.2
def BF(n:Nat)(a b:Cl n):Prop:=(au n a.1.1 n b.1.1=true/\au n a.1.2.1 n b.1.2.1=true/\au n a.1.2.2 n b.1.2.2=true)/\eu (BM n) a.2.2 b.2.2
def xk(n:Nat)(a b:Bh n):Prop:=a.1=b.1/\eu (BF n) a.2.2 b.2.2
theorem Ek{n m:Nat}{x:Tm n}{y:Tm m}(a:au n x m y=true):(fQ n x).1=(fQ m y).1/\(fQ n x).2.2.1=(fQ m y).2.2.1:=by
 cases n with
 | zero=>simp[au]at a
 | succ n=>
  cases m with
  | zero=>simp[au]at a
  | succ m=>
   have b:=bz a;have c:=cu _ _ _ b.2;simp only[fQ,bu];exact⟨b.1,c⟩
theorem qI{n m:Nat}{x:Tm n}{y:Tm m}(b:au n x m y=true):ex n x=ex m y:=by
 have a:=Ek b;simp only[ex,a.1,a.2]
theorem Nj{n:Nat}{a b:Ac n}(c:BM n a b):mW n a=mW n b:=by
 obtain⟨d,e,f,g⟩:=c;simp only[mW,d,g,qI e,qI f]
theorem Nl{n:Nat}{a b:Cl n}(c:BF n a b):sE n a=sE n b:=by
 simp only[sE,c.2.1,eu.all (R:=BM n) (mW n) (mW n) (λ_ _ c=>Nj c) _ _ c.2]
theorem Nk{n:Nat}{a b:Bh n}(c:xk n a b):vd n a=vd n b:=by
 simp only[vd,c.1,c.2.1,eu.all (R:=BF n) (sE n) (sE n) (λ_ _ c=>Nl c) _ _ c.2]
theorem IU{n:Nat}{l r:List (Bh n)}(a:eu (xk n) l r):jP n l=jP n r:=by
 simp only[jP,a.1,eu.all (R:=xk n) (vd n) (vd n) (λ_ _ a=>Nk a) _ _ a]
theorem dH(s:ByteArray)(N M:Nat):au (N+1) (aU s N) (M+1) (aU s M)=true:=cW rfl rfl
theorem Ct(k a:Int)(N M:Nat):au (N+1) (bF k a N) (M+1) (bF k a M)=true:=cW rfl rfl
theorem gB{N M:Nat}{l:List (Tm N)}{r:List (Tm M)}(c:az (λa b=>au N a M b) l r=true):au (N+1) (cR N l) (M+1) (cR M r)=true:=cW rfl c
theorem lH:(N n:Nat)->n<=N->(x:Tm n)->au n x n x=true->au N (aK N n x) n x=true
 | _,0,_,_,h=>by simp[au]at h
 | 0,n+1,h,_,_=>by omega
 | N+1,n+1,h,x,hr=>by
  have b:=(bz hr).2;refine cW rfl (iq _ _ _ λy c=>lH N n (by omega) y ?_);obtain⟨i,a⟩:=cM c;exact iV _ _ _ b i y y a a
theorem wG{n m:Nat}{x:Tm n}{y:Tm m}(a:au n x m y=true):au n x n x=true:=bM _ _ _ _ _ _ a (dF _ _ _ _ a)
theorem CY{n m:Nat}{x:Tm n}{y:Tm m}(a:au n x m y=true):au m y m y=true:=bM _ _ _ _ _ _ (dF _ _ _ _ a) a
theorem nV{N n m:Nat}(c:n<=N)(b:m<=N){x:Tm n}{y:Tm m}(a:au n x m y=true):au N (aK N n x) N (aK N m y)=true:=
 bM _ _ _ _ _ _ (lH N n c x (wG a)) (bM _ _ _ _ _ _ a (dF _ _ _ _ (lH N m b y (CY a))))
theorem kP{B:Nat}{w:World}:{n:Nat}->{x:Tm n}->In B w n x->au n x n x=true
 | 0,_,k=>k.elim
 | n+1,x,k=>by
  refine cW rfl (ir _ _ λy a=>?_);obtain⟨i,c⟩:=cM a;rcases k.2 with e|⟨b,o,_,_,d⟩
  ·rw[e]at a;cases a
  ·exact kP (d i y c).2
theorem GW{n:Nat}{a b:Ac (n+1)}(e:BM (n+1) a b):au (n+2) (bU n a) (n+2) (bU n b)=true:=by
 obtain⟨f,c,d,g⟩:=e;unfold bU;rw[f,g];split
 ·exact gB (by simp[az,dH,c,d])
 split
 ·exact gB (by simp[az,dH,Ct,d])
 split
 ·exact gB (by simp[az,dH,c])
 ·exact gB (by simp[az,dH])
theorem Ha{n:Nat}{a b:Cl (n+1)}(c:BF (n+1) a b):au (n+4) (dp n a) (n+4) (dp n b)=true:=by
 have d:=eu.same (bU n) (bU n) (λ_ _ c=>GW c) _ _ c.2;exact gB (by simp only[az,ay];exact⟨dH _ _ _,nV (by omega) (by omega) c.1.1,nV (by omega) (by omega) c.1.2.1,gB d,nV (by omega) (by omega) c.1.2.2,trivial⟩)
theorem G1{n:Nat}{a b:Bh (n+1)}(c:xk (n+1) a b):au (n+5) (dz n a) (n+5) (dz n b)=true:=by
 have d:=eu.same (dp n) (dp n) (λ_ _ c=>Ha c) _ _ c.2;refine gB ?_;simp only[az,ay];exact⟨dH _ _ _,by rw[c.1];exact dH _ _ _,d⟩
theorem IV{n:Nat}{l r:List (Bh (n+1))}(a:eu (xk (n+1)) l r):au (n+6) (bR n l) (n+6) (bR n r)=true:=by
 have b:=eu.same (dz n) (dz n) (λ_ _ a=>G1 a) _ _ a;refine gB ?_;simp only[az,ay];exact⟨dH _ _ _,b⟩
theorem dn(k b:Int)(s:ByteArray)(a:Option Addr)(l c:Nat)(w:World):ah 168 #[.agg #[.int .i64 k,.int .i64 b,.string s,.slice a l c]] w λe w'=>e=.returned (.bool (k==0 && b==0 && s.toList.isEmpty && (l:Int)==0))/\w'=w.alloc (.cells #[.int .i64 k,.int .i64 b,.string s,.slice a l c] 30):=by
 cases h1:k==0
 ·go_enter Tryz.func168,Tryz.ntmps168;go_wp2_with fail
  go_ret
  exact⟨rfl,rfl⟩
 cases h2:b==0
 ·go_enter Tryz.func168,Tryz.ntmps168;go_wp2_with fail
  go_ret
  exact⟨rfl,rfl⟩
 cases h3:s.toList.isEmpty
 ·go_enter Tryz.func168,Tryz.ntmps168;go_wp2_with fail
  go_ret
  exact⟨rfl,rfl⟩
 go_enter Tryz.func168,Tryz.ntmps168;go_wp2_with fail
 go_ret
 exact⟨rfl,rfl⟩
theorem pJ(K a t1 f g v:Int)(t2 h s:ByteArray)(b i:Option Addr)(c d j k:Nat)(w:World):ah 167 #[.agg #[.int .i64 K,.int .i64 a,.int .i64 t1,.string t2,.slice b c d,.int .i64 f,.int .i64 g,.string h,.slice i j k,.string s,.int .i64 v]] w λe w'=>e=.returned (.bool (vj s v))/\w'=w.alloc (.cells #[.int .i64 K,.int .i64 a,.int .i64 t1,.string t2,.slice b c d,.int .i64 f,.int .i64 g,.string h,.slice i j k,.string s,.int .i64 v] 224):=by
 unfold vj;cases h3:s.toList.isEmpty
 ·go_enter Tryz.func167,Tryz.ntmps167;go_wp2_with fail
  go_ret
  exact⟨rfl,rfl⟩
 go_enter Tryz.func167,Tryz.ntmps167;go_wp2_with fail
 go_ret
 exact⟨rfl,rfl⟩
theorem Co(K o t1 q r v:Int)(t2 t s:ByteArray)(x z:Option Addr)(p y u A:Nat)(w:World)(m:s.size<=9223372036854775807)(h i l n:Bool)(a:Hid ((o==0 && t1==0 && t2.toList.isEmpty && (p:Int)==0)=h))(d:Hid ((q==0 && r==0 && t.toList.isEmpty && (u:Int)==0)=i))(j:Hid (vj s v=l))(f:Hid (dC s=n)):ah 154 #[.agg #[.int .i64 K,.int .i64 o,.int .i64 t1,.string t2,.slice x p y,.int .i64 q,.int .i64 r,.string t,.slice z u A,.string s,.int .i64 v]] w λe w'=>e=.returned (.bool (if K=1 then l else if K=2 then h && n && decide (0<=v) && decide (v<4)else if K=3 then i && l else if K=4 then h && i && l else false))/\ag w w':=by
 by_cases b:K=1
 ·subst b;rw[if_pos rfl];go_enter Tryz.func154,Tryz.ntmps154;go_wp2_with (go_at_call 167;refine(pJ _ _ _ _ _ _ _ _ _ _ _ _ _ _ _ _).mono ?_;rintro e w' ⟨rfl,rfl⟩;rw[j.out])
  go_ret
  exact⟨rfl,by go_grown⟩
 rw[if_neg b];by_cases c:K=2
 ·subst c;rw[if_pos rfl];clear d j b;cases h
  ·go_enter Tryz.func154,Tryz.ntmps154;go_wp2_with (go_at_call 168;refine(dn _ _ _ _ _ _ _).mono ?_;rintro e w' ⟨rfl,rfl⟩;rw[a.out])
   go_ret
   exact⟨rfl,by go_grown⟩
  cases n
  ·go_enter Tryz.func154,Tryz.ntmps154;go_wp2_with (first|(go_at_call 168;refine(dn _ _ _ _ _ _ _).mono ?_;rintro e w' ⟨rfl,rfl⟩;rw[a.out])|(go_at_call 64;refine(ii _ _ m).mono ?_;rintro e w' ⟨rfl,rfl⟩;rw[f.out]))
   go_ret
   exact⟨rfl,by go_grown⟩
  cases hv:decide (0<=v)
  ·go_enter Tryz.func154,Tryz.ntmps154;go_wp2_with (first|(go_at_call 168;refine(dn _ _ _ _ _ _ _).mono ?_;rintro e w' ⟨rfl,rfl⟩;rw[a.out])|(go_at_call 64;refine(ii _ _ m).mono ?_;rintro e w' ⟨rfl,rfl⟩;rw[f.out]))
   go_ret
   exact⟨rfl,by go_grown⟩
  ·go_enter Tryz.func154,Tryz.ntmps154;go_wp2_with (first|(go_at_call 168;refine(dn _ _ _ _ _ _ _).mono ?_;rintro e w' ⟨rfl,rfl⟩;rw[a.out])|(go_at_call 64;refine(ii _ _ m).mono ?_;rintro e w' ⟨rfl,rfl⟩;rw[f.out]))
   go_ret
   exact⟨rfl,by go_grown⟩
 rw[if_neg c];by_cases g:K=3
 ·subst g;rw[if_pos rfl];clear a f b c;cases i
  ·go_enter Tryz.func154,Tryz.ntmps154;go_wp2_with (go_at_call 168;refine(dn _ _ _ _ _ _ _).mono ?_;rintro e w' ⟨rfl,rfl⟩;rw[d.out])
   go_ret
   exact⟨rfl,by go_grown⟩
  ·go_enter Tryz.func154,Tryz.ntmps154;go_wp2_with (first|(go_at_call 168;refine(dn _ _ _ _ _ _ _).mono ?_;rintro e w' ⟨rfl,rfl⟩;rw[d.out])|(go_at_call 167;refine(pJ _ _ _ _ _ _ _ _ _ _ _ _ _ _ _ _).mono ?_;rintro e w' ⟨rfl,rfl⟩;rw[j.out]))
   go_ret
   exact⟨rfl,by go_grown⟩
 rw[if_neg g];by_cases k:K=4
 ·subst k;rw[if_pos rfl];clear f b c g;cases h
  ·go_enter Tryz.func154,Tryz.ntmps154;go_wp2_with (go_at_call 168;refine(dn _ _ _ _ _ _ _).mono ?_;rintro e w' ⟨rfl,rfl⟩;rw[a.out])
   go_ret
   exact⟨rfl,by go_grown⟩
  cases i
  ·go_enter Tryz.func154,Tryz.ntmps154;go_wp2_with (go_at_call 168;refine(dn _ _ _ _ _ _ _).mono ?_;rintro e w' ⟨rfl,rfl⟩;first|rw[a.out]|rw[d.out])
   go_ret
   exact⟨rfl,by go_grown⟩
  ·go_enter Tryz.func154,Tryz.ntmps154;go_wp2_with (first|(go_at_call 168;refine(dn _ _ _ _ _ _ _).mono ?_;rintro e w' ⟨rfl,rfl⟩;first|rw[a.out]|rw[d.out])|(go_at_call 167;refine(pJ _ _ _ _ _ _ _ _ _ _ _ _ _ _ _ _).mono ?_;rintro e w' ⟨rfl,rfl⟩;rw[j.out]))
   go_ret
   exact⟨rfl,by go_grown⟩
 rw[if_neg k];have B:(K==1)=false:=by simpa using b
 have C:(K==2)=false:=by simpa using c
 have D:(K==3)=false:=by simpa using g
 have E:(K==4)=false:=by simpa using k
 clear b c g k;go_enter Tryz.func154,Tryz.ntmps154;go_wp2_with fail
 go_ret
 exact⟨rfl,by go_grown⟩
theorem Fh(n:Nat)(a:Ac (n+1))(w:World)(b:a.2.2.1.size<=maxLen):ah 154 #[.agg (fM (n+1) a).toArray] w λe w'=>e=.returned (.bool (mW (n+1) a))/\ag w w':=by
 unfold maxLen at b;exact Co a.1 _ _ _ _ _ _ _ _ _ _ _ _ _ _ w (by omega) _ _ _ _ rfl rfl rfl rfl
def LR(n:Nat)(w:World)(b o:Nat)(x:Ac (n+1)):Prop:=
 w.cell? ⟨b,o,none⟩=some (.int .i64 x.1)/\
 (w.cell? ⟨b,o+1,none⟩=some (.int .i64 x.2.1.1.1.1)/\w.cell? ⟨b,o+2,none⟩=some (.int .i64 x.2.1.1.1.2.1)/\w.cell? ⟨b,o+3,none⟩=some (.string x.2.1.1.1.2.2)/\w.cell? ⟨b,o+4,none⟩=some (.slice x.2.1.1.2.1.1 x.2.1.1.2.2.length x.2.1.1.2.1.2))/\
 (w.cell? ⟨b,o+5,none⟩=some (.int .i64 x.2.1.2.1.1)/\w.cell? ⟨b,o+6,none⟩=some (.int .i64 x.2.1.2.1.2.1)/\w.cell? ⟨b,o+7,none⟩=some (.string x.2.1.2.1.2.2)/\w.cell? ⟨b,o+8,none⟩=some (.slice x.2.1.2.2.1.1 x.2.1.2.2.2.length x.2.1.2.2.1.2))/\
 w.cell? ⟨b,o+9,none⟩=some (.string x.2.2.1)/\w.cell? ⟨b,o+10,none⟩=some (.int .i64 x.2.2.2)
def LW(n:Nat)(w:World)(b o:Nat)(x:Cl (n+1)):Prop:=
 (w.cell? ⟨b,o,none⟩=some (.int .i64 x.1.1.1.1)/\w.cell? ⟨b,o+1,none⟩=some (.int .i64 x.1.1.1.2.1)/\w.cell? ⟨b,o+2,none⟩=some (.string x.1.1.1.2.2)/\w.cell? ⟨b,o+3,none⟩=some (.slice x.1.1.2.1.1 x.1.1.2.2.length x.1.1.2.1.2))/\
 (w.cell? ⟨b,o+4,none⟩=some (.int .i64 x.1.2.1.1.1)/\w.cell? ⟨b,o+5,none⟩=some (.int .i64 x.1.2.1.1.2.1)/\w.cell? ⟨b,o+6,none⟩=some (.string x.1.2.1.1.2.2)/\w.cell? ⟨b,o+7,none⟩=some (.slice x.1.2.1.2.1.1 x.1.2.1.2.2.length x.1.2.1.2.1.2))/\
 w.cell? ⟨b,o+8,none⟩=some (.slice x.2.1.1 x.2.2.length x.2.1.2)/\
 (w.cell? ⟨b,o+9,none⟩=some (.int .i64 x.1.2.2.1.1)/\w.cell? ⟨b,o+10,none⟩=some (.int .i64 x.1.2.2.1.2.1)/\w.cell? ⟨b,o+11,none⟩=some (.string x.1.2.2.1.2.2)/\w.cell? ⟨b,o+12,none⟩=some (.slice x.1.2.2.2.1.1 x.1.2.2.2.2.length x.1.2.2.2.1.2))
theorem pe.ac{n B:Nat}{w:World}{e:Ac (n+1)->Prop}{a:Option Addr}{p:List (Ac (n+1))}(d:pe B w 11 (fM (n+1)) e a p)(k:Nat)(x:Ac (n+1))(f:p[k]?=some x):∃b o,a=some ⟨b,o,none⟩/\b<B/\LR n w b (o+k*11) x/\e x:=by
 rcases d with d|⟨b,o,g,i,d⟩
 ·subst d;simp at f
 ·obtain⟨c,h⟩:=d k x f;exact⟨b,o,g,i,⟨c 0 _ rfl,⟨c 1 _ rfl,c 2 _ rfl,c 3 _ rfl,c 4 _ rfl⟩,⟨c 5 _ rfl,c 6 _ rfl,c 7 _ rfl,c 8 _ rfl⟩,c 9 _ rfl,c 10 _ rfl⟩,h⟩
theorem pe.cl{n B:Nat}{w:World}{e:Cl (n+1)->Prop}{a:Option Addr}{p:List (Cl (n+1))}(d:pe B w 13 (eE (n+1)) e a p)(k:Nat)(x:Cl (n+1))(f:p[k]?=some x):∃b o,a=some ⟨b,o,none⟩/\b<B/\LW n w b (o+k*13) x/\e x:=by
 rcases d with d|⟨b,o,g,i,d⟩
 ·subst d;simp at f
 ·obtain⟨c,h⟩:=d k x f;exact⟨b,o,g,i,⟨⟨c 0 _ rfl,c 1 _ rfl,c 2 _ rfl,c 3 _ rfl⟩,⟨c 4 _ rfl,c 5 _ rfl,c 6 _ rfl,c 7 _ rfl⟩,c 8 _ rfl,c 9 _ rfl,c 10 _ rfl,c 11 _ rfl,c 12 _ rfl⟩,h⟩
theorem pe.bh{n B:Nat}{w:World}{d:Bh (n+1)->Prop}{a:Option Addr}{p:List (Bh (n+1))}(c:pe B w 2 (oM (n+1)) d a p)(k:Nat)(x:Bh (n+1))(f:p[k]?=some x):∃b o,a=some ⟨b,o,none⟩/\b<B/\(w.cell? ⟨b,o+k*2,none⟩=some (.string x.1)/\w.cell? ⟨b,o+k*2+1,none⟩=some (.slice x.2.1.1 x.2.2.length x.2.1.2))/\d x:=by
 rcases c with c|⟨b,o,g,i,c⟩
 ·subst c;simp at f
 ·obtain⟨e,h⟩:=c k x f;exact⟨b,o,g,i,⟨e 0 _ rfl,e 1 _ rfl⟩,h⟩
theorem jO{b:Type}{c:Nat->World->b->Prop}{d:(Nat->Prop)->b->Prop}(g:jv c d){k:Nat}{f:b->List Value}{a:Option Addr}{B:Nat}{w w':World}(h:Below B w w'){l:List b}(e:pe B w k f (c B w) a l):pe B w' k f (c B w') a l:=(cq g k f a).below h e
theorem ze(n:Nat)(p:List (Ac (n+1)))(len:Nat)(r:Hid (p.length=len))(a:Option Addr)(pc B:Nat)(w:World)(u:Hid (pe B w 11 (fM (n+1)) (gZ (n+1) B w) a p))(C:len<=9223372036854775807)(s:B<=w.heap.size):ah 123 #[.slice a len pc] w λe w'=>e=.returned (.bool (decide ((len:Int)<=8) && p.all (mW (n+1))))/\ag w w':=by
 by_cases x:(8:Int)<len
 ·have f:decide ((len:Int)<=8)=false:=by simp;omega
  rw[f];go_enter Tryz.func123,Tryz.ntmps123;go_wp2_with fail
  go_ret
  exact⟨rfl,ak _ _⟩
 have f:decide ((len:Int)<=8)=true:=by simp;omega
 rw[f,dX];clear f;go_enter Tryz.func123,Tryz.ntmps123;go_wp2_with fail;go_loopw [10] (λj wr=>∃k:Nat,k<=len/\j=.int .i64 k/\ag w wr/\Hid ((p.drop k).all (mW (n+1))=p.all (mW (n+1)))) (λj _=>len-(intOf j).toNat)
 case atStart=>exact⟨0,by omega,rfl,ak _ _,rfl⟩
 case round=>
  obtain⟨k,y,rfl,d,h⟩:=hrel;by_cases t:k<len
  ·obtain⟨b,i⟩:∃b,p[k]?=some b:=⟨p[k]'(by rw[r.out];exact t),aD _⟩;have l:=aj (p9 (mW (n+1)) p k b i);obtain⟨E,po,rfl,D,⟨F,⟨G,I,J,K⟩,⟨L,M,N,O⟩,P,H⟩,q⟩:=(jO (fh (n+1)) (d.mono s) u.out).ac k b i;have g:=λc=>aj (Fh n b c q.2.2.2.1);replace g:Hid (∀c,ah 154 #[.agg #[.int .i64 b.1,.int .i64 b.2.1.1.1.1,.int .i64 b.2.1.1.1.2.1,.string b.2.1.1.1.2.2,.slice b.2.1.1.2.1.1 b.2.1.1.2.2.length b.2.1.1.2.1.2,.int .i64 b.2.1.2.1.1,.int .i64 b.2.1.2.1.2.1,.string b.2.1.2.1.2.2,.slice b.2.1.2.2.1.1 b.2.1.2.2.2.length b.2.1.2.2.1.2,.string b.2.2.1,.int .i64 b.2.2.2]] c λe w'=>e=.returned (.bool (mW (n+1) b))/\ag c w'):=λc=>(g c).out;clear q i;generalize mW (n+1) b=v at*;have z:(0:Int)<=(k:Int):=by omega
   have A:(k:Int)<(len:Int):=by omega
   go_wp2_with fail;refine(g.out _).mono ?_;rintro e c ⟨rfl,m⟩;have o:ag w c:=(d.trans (((ak _ _).alloc (ai _) _).mono d.size)).trans (m.mono (by have:=d.size;simp;omega));clear m;cases v with
   | true=>
    go_wp2_with fail;go_roundw
    case rel=>exact⟨k+1,by omega,by go_num,o,by rw[<-h.out,l.out];rfl⟩
    case measure=>simp[intOf];omega
   | false=>
    go_wp2_with fail
    go_ret
    exact⟨bG (by rw[<-h.out,l.out];rfl),o⟩
  ·go_wp2_with fail
   go_ret
   refine⟨bG ?_,d⟩;rw[<-h.out,ja (by rw[r.out];omega)];rfl
theorem tz(n:Nat)(p:List (Cl (n+1)))(len:Nat)(s:Hid (p.length=len))(a:Option Addr)(pc B:Nat)(w:World)(y:Hid (pe B w 13 (eE (n+1)) (gE (n+1) B w) a p))(G:len<=9223372036854775807)(m:B<=w.heap.size):ah 86 #[.slice a len pc] w λe w'=>e=.returned (.bool (decide (1<=(len:Int)) && decide ((len:Int)<=6) && p.all (sE (n+1))))/\ag w w':=by
 by_cases A:(len:Int)<1
 ·have v:decide (1<=(len:Int))=false:=by simp;omega
  rw[v];go_enter Tryz.func86,Tryz.ntmps86;go_wp2_with fail
  go_ret
  exact⟨rfl,ak _ _⟩
 by_cases C:(6:Int)<len
 ·have f:decide ((len:Int)<=6)=false:=by simp;omega
  rw[f];go_enter Tryz.func86,Tryz.ntmps86;go_wp2_with fail
  go_ret
  exact⟨bG (by simp),ak _ _⟩
 have f:(decide (1<=(len:Int)) && decide ((len:Int)<=6))=true:=by simp;omega
 rw[f,dX];clear f;go_enter Tryz.func86,Tryz.ntmps86;go_wp2_with fail;go_loopw [15] (λj wr=>∃k:Nat,k<=len/\j=.int .i64 k/\ag w wr/\Hid ((p.drop k).all (sE (n+1))=p.all (sE (n+1)))) (λj _=>len-(intOf j).toNat)
 case atStart=>exact⟨0,by omega,rfl,ak _ _,rfl⟩
 case round=>
  obtain⟨k,D,rfl,d,g⟩:=hrel;by_cases x:k<len
  ·obtain⟨b,i⟩:∃b,p[k]?=some b:=⟨p[k]'(by rw[s.out];exact x),aD _⟩;have l:=aj (p9 (sE (n+1)) p k b i);obtain⟨I,po,rfl,H,⟨⟨J,K,O,P⟩,⟨Q,R,S,T⟩,U,V,L,M,N⟩,h⟩:=(jO (dS (n+1)) (d.mono m) y.out).cl k b i;have o:B<=wr.heap.size:=aw m d.size
   have u:Hid (∀c,ag wr c->ah 123 #[.slice b.2.1.1 b.2.2.length b.2.1.2] c λe w'=>e=.returned (.bool (sE (n+1) b))/\ag c w'):=
    λc t=>ze n b.2.2 b.2.2.length rfl b.2.1.1 b.2.1.2 B c (jO (fh (n+1)) (t.mono o) h.2.2) (by have:=h.2.1;unfold maxLen at this;omega) (aw o t.size)
   clear h i;generalize sE (n+1) b=z at*;have E:(0:Int)<=(k:Int):=by omega
   have F:(k:Int)<(len:Int):=by omega
   go_wp2_with fail;refine(u.out _ ((ak _ _).alloc (ai _) _)).mono ?_;rintro e c ⟨rfl,q⟩;have r:ag w c:=(d.trans (((ak _ _).alloc (ai _) _).mono d.size)).trans (q.mono (by have:=d.size;simp;omega));clear q;cases z with
   | true=>
    go_wp2_with fail;go_roundw
    case rel=>exact⟨k+1,by omega,by go_num,r,by rw[<-g.out,l.out];rfl⟩
    case measure=>simp[intOf];omega
   | false=>
    go_wp2_with fail
    go_ret
    exact⟨bG (by rw[<-g.out,l.out];rfl),r⟩
  ·go_wp2_with fail
   go_ret
   refine⟨bG ?_,d⟩;rw[<-g.out,ja (by rw[s.out];omega)];rfl
theorem Mk(n:Nat)(x:Bh n):vd n x=(dC x.1 && (decide (1<=(x.2.2.length:Int)) && decide ((x.2.2.length:Int)<=6) && x.2.2.all (sE n))):=by
 simp only[vd,Bool.and_assoc]
theorem oU(n:Nat)(p:List (Bh (n+1)))(len:Nat)(l:Hid (p.length=len))(a:Option Addr)(pc B:Nat)(w:World)(D:Hid (gF (n+1) B w a p))(M:len<=9223372036854775807)(s:B<=w.heap.size):ah 58 #[.slice a len pc] w λe w'=>e=.returned (.bool (jP (n+1) p))/\ag w w':=by
 have r:Hid (jP (n+1) p=(decide (1<=(len:Int)) && decide ((len:Int)<=7) && p.all (vd (n+1)))):=by
  show jP (n+1) p=_;rw[<-l.out];rfl
 rw[r.out];by_cases H:(len:Int)<1
 ·have A:decide (1<=(len:Int))=false:=by simp;omega
  rw[A];go_enter Tryz.func58,Tryz.ntmps58;go_wp2_with fail
  go_ret
  exact⟨rfl,ak _ _⟩
 by_cases I:(7:Int)<len
 ·have f:decide ((len:Int)<=7)=false:=by simp;omega
  rw[f];go_enter Tryz.func58,Tryz.ntmps58;go_wp2_with fail
  go_ret
  exact⟨bG (by simp),ak _ _⟩
 have f:(decide (1<=(len:Int)) && decide ((len:Int)<=7))=true:=by simp;omega
 rw[f,dX];clear f r;go_enter Tryz.func58,Tryz.ntmps58;go_wp2_with fail;go_loopw [15] (λo wr=>∃k:Nat,k<=len/\o=.int .i64 k/\ag w wr/\Hid ((p.drop k).all (vd (n+1))=p.all (vd (n+1)))) (λo _=>len-(intOf o).toNat)
 case atStart=>exact⟨0,by omega,rfl,ak _ _,rfl⟩
 case round=>
  obtain⟨k,J,rfl,d,g⟩:=hrel;by_cases C:k<len
  ·obtain⟨b,m⟩:∃b,p[k]?=some b:=⟨p[k]'(by rw[l.out];exact C),aD _⟩;have j:=aj (p9 (vd (n+1)) p k b m);obtain⟨O,po,rfl,N,⟨Q,R⟩,h⟩:=(gF.below (d.mono s) D.out).bh k b m;have t:B<=wr.heap.size:=aw s d.size;have E:b.1.size<=9223372036854775807:=by have:=h.1;unfold maxLen at this;omega
   have z:Hid (∀c,ag wr c->ah 86 #[.slice b.2.1.1 b.2.2.length b.2.1.2] c λe w'=>e=.returned (.bool (decide (1<=(b.2.2.length:Int)) && decide ((b.2.2.length:Int)<=6) && b.2.2.all (sE (n+1))))/\ag c w'):=
    λc y=>tz n b.2.2 b.2.2.length rfl b.2.1.1 b.2.1.2 B c (jO (dS (n+1)) (y.mono t) h.2.2) (by have:=h.2.1;unfold maxLen at this;omega) (aw t y.size)
   have i:=aj (Mk (n+1) b);clear h m;generalize (decide (1<=(b.2.2.length:Int)) && decide ((b.2.2.length:Int)<=6) && b.2.2.all (sE (n+1)))=F at*;have K:(0:Int)<=(k:Int):=by omega
   have L:(k:Int)<(len:Int):=by omega
   have q:=λc=>aj (ii b.1 c E);generalize dC b.1=G at*;generalize vd (n+1) b=P at*;have u:ag w (wr.alloc (.cells #[.string b.1,.slice b.2.1.1 b.2.2.length b.2.1.2] 138)):=d.trans (((ak _ _).alloc (ai _) _).mono d.size);cases G with
   | false=>
    go_wp2_with (go_at_call 64;refine(q _).out.mono ?_;rintro e w' ⟨rfl,rfl⟩)
    go_ret
    exact⟨bG (by rw[<-g.out,j.out,i.out];rfl),u⟩
   | true=>
    go_wp2_with (first|(go_at_call 64;refine(q _).out.mono ?_;rintro e w' ⟨rfl,rfl⟩)|(go_at_call 86;refine(z.out _ ((ak _ _).alloc (ai _) _)).mono ?_;rintro e c ⟨rfl,v⟩;have x:ag w c:=u.trans (v.mono (by have:=d.size;simp;omega));clear v;cases F))
    ·go_ret
     exact⟨bG (by rw[<-g.out,j.out,i.out];rfl),x⟩
    ·go_roundw
     case rel=>exact⟨k+1,by omega,by go_num,x,by rw[<-g.out,j.out,i.out];rfl⟩
     case measure=>simp[intOf];omega
  ·go_wp2_with fail
   go_ret
   refine⟨bG ?_,d⟩;rw[<-g.out,ja (by rw[l.out];omega)];rfl
theorem ic(s:ByteArray)(w:World):ah 87 #[.string s] w λe w'=>e=.returned (.agg #[.int .i64 2,.int .i64 0,.string s,.slice none 0 0])/\w'=w.alloc (.cells #[.int .i64 2,.int .i64 0,.string s,.slice none 0 0] 30):=by
 go_enter Tryz.func87,Tryz.ntmps87;go_wp2_with fail;exact ap (v:=.agg #[.int .i64 2,.int .i64 0,.string s,.slice none 0 0]) (by simp[results,Tryz.results87,go_sem]) rfl ⟨rfl,rfl⟩
theorem fl(a:Option Addr)(l c:Nat)(w:World):ah 89 #[.slice a l c] w λe w'=>e=.returned (.agg #[.int .i64 4,.int .i64 0,.string ⟨#[]⟩,.slice a l c])/\w'=w.alloc (.cells #[.int .i64 4,.int .i64 0,.string ⟨#[]⟩,.slice a l c] 30):=by
 go_enter Tryz.func89,Tryz.ntmps89;go_wp2_with fail;exact ap (v:=.agg #[.int .i64 4,.int .i64 0,.string ⟨#[]⟩,.slice a l c]) (by simp[results,Tryz.results89,go_sem]) rfl ⟨rfl,rfl⟩
def ia(B N:Nat)(c:Tm N)(w:World)(e:Ending)(w':World):Prop:=
 ∃a:Tm N,e=.returned (dd N a)/\Hid (ag w w'/\In w'.heap.size w' N a/\bV (λb=>b<B\/w.heap.size<=b) N a/\au N a N c=true)
abbrev dN(n B base:Nat)(xs:List (Tm n))(v:Value)(w0 wr:World):Prop:=eL (λB w x=>In B w n x) (λP x=>bV P n x) (gR n) 4 30 B base xs v w0 wr
theorem ol(n:Nat)(x:Tm n):(gR n x).length=4:=rfl
theorem gJ(s:ByteArray)(N:Nat)(a:s.size<=maxLen)(B:Nat)(w:World):In B w (N+1) (aU s N):=⟨⟨by simp[aU,dh],by simp[aU,dh],a,by simp[aU],by simp[aU]⟩,ae rfl⟩
theorem Ak(k a:Int)(N:Nat)(b:dh k)(c:dh a)(B:Nat)(w:World):In B w (N+1) (bF k a N):=⟨⟨b,c,aB _,by simp[bF],by simp[bF]⟩,ae rfl⟩
theorem nM(s:ByteArray)(N:Nat)(P:Nat->Prop):bV P (N+1) (aU s N):=ae rfl
theorem DW{n:Nat}{w:World}{b o:Nat}{x:Tm n}{B:Nat}{w0:World}(d:In B w0 n x)(a:∀(j:Nat)(c:Value),(gR n x)[j]?=some c->w.cell? ⟨b,o+j,none⟩=some c):dy w b o n x:=by
 cases n with
 | zero=>exact d.elim
 | succ n=>exact⟨a 0 _ rfl,a 1 _ rfl,a 2 _ rfl,a 3 _ rfl⟩
theorem dN.tells{B base N:Nat}{xs ys:List (Tm N)}{v:Value}{w w0 wr w':World}(p:dN N B base xs v w0 wr)(x:w.heap.size<=base)(s:az (λa b=>au N a N b) xs ys=true)(u:∀b,b<B\/base<=b->b<wr.heap.size->w'.heap[b]?=wr.heap[b]?)(t:wr.heap.size<=w'.heap.size)(g:ag w w'):∃a c,v=.slice a xs.length c/\ia B (N+1) (cR N ys) w (.returned (.agg #[.int .i64 4,.int .i64 0,.string ⟨#[]⟩,.slice a xs.length c])) w':=by
 have j:=dL N;obtain⟨a,c,f,m,n,e⟩:=p.lay j (ol N);refine⟨a,c,f,((4,0,.empty),(a,c),xs),rfl,g,⟨⟨by simp[dh],by simp[dh],aB _,m.1,m.2⟩,?_⟩,?_,cW rfl s⟩
 ·have q:=(cq j 4 (gR N) a).2.1 _ _ _ _ e n;have r:=(cq j 4 (gR N) a).2.2.1 _ _ wr w' _ (λb l=>u b l.1 l.2) q n;have d:=(cq j 4 (gR N) a).2.2.2.1 _ _ _ _ t r;rcases d with d|⟨b,o,f,g,d⟩
  ·exact ae d
  ·exact af ⟨b,o,f,g,λk i h=>⟨DW (d k i h).2 (d k i h).1,(d k i h).2⟩⟩
 ·rcases e with e|⟨b,o,f,g,e⟩
  ·exact ae e
  ·exact af ⟨b,o,f,by omega,λk i h=>(e i (aC h)).mono λb g=>by omega⟩
theorem oh{B N:Nat}(xs:List (Tm N)){w w1 w':World}{cs:Array Value}{g L:Nat}(a:ag w w1)(r:g=w1.heap.size)(p:L=xs.length)(e:Below (w1.alloc (.cells cs 30)).heap.size (w1.alloc (.cells cs 30)) w')(q:cs.toList=xs.flatMap (gR N))(u:xs.length<=8)(i:B<=w.heap.size)(f:∀y∈xs,In B w N y):ia B (N+1) (cR N xs) w (.returned (.agg #[.int .i64 4,.int .i64 0,.string ⟨#[]⟩,.slice (some ⟨g,0,none⟩) L L])) w':=by
 have o:=eL.lit (T:=30) (k:=4) (B:=B) (base:=w1.heap.size) (dL N) xs (w0:=w1) q (ol N) (by unfold maxLen;omega) (ai _) (ak _ _) (λy d=>⟨((f y d).below (a.mono i)).mono (aw i a.size),(nU (f y d)).mono λb h=>ae h⟩);have j:ag w (w1.alloc (.cells cs 30)):=a.trans (((ak _ _).alloc (ai _) _).mono a.size);obtain⟨s,c,l,k⟩:=dN.tells o a.size (ir _ _ λy d=>kP (f y d)) (λb _ h=>e.block b h) e.size (j.trans (e.mono j.size));injection l with m t n;subst m n p r;exact k
theorem gA{w:World}{a b c:Obj}:ag w (((w.alloc a).alloc b).alloc c)/\w.heap.size+1+1+1=(((w.alloc a).alloc b).alloc c).heap.size:=
 ⟨(((ak _ _).alloc (ai _) _).alloc (by simp) _).alloc (by simp;omega) _,by simp⟩
theorem rX{w:World}{a b c d:Obj}:ag w ((((w.alloc a).alloc b).alloc c).alloc d)/\w.heap.size+1+1+1+1=((((w.alloc a).alloc b).alloc c).alloc d).heap.size:=
 ⟨((((ak _ _).alloc (ai _) _).alloc (by simp) _).alloc (by simp;omega) _).alloc (by simp;omega) _,by simp⟩
theorem ux{w:World}{o:Obj}:ag w (w.alloc o).drew:=((ak _ _).alloc (ai _) _).drew
theorem aI{w:World}{o:Obj}:ag w (w.alloc o):=(ak _ _).alloc (ai _) _
theorem mL(s:ByteArray)(a:s.size<=8):s.size<=maxLen:=by unfold maxLen;omega
theorem yC(n:Nat)(t x:Tm (n+1))(s:ByteArray)(v:Int)(B:Nat)(w:World)(b:In B w (n+1) t)(c:In B w (n+1) x)(h:B<=w.heap.size):ah 155 #[.agg #[.int .i64 1,.int .i64 t.1.1,.int .i64 t.1.2.1,.string t.1.2.2,.slice t.2.1.1 t.2.2.length t.2.1.2,.int .i64 x.1.1,.int .i64 x.1.2.1,.string x.1.2.2,.slice x.2.1.1 x.2.2.length x.2.1.2,.string s,.int .i64 v]] w (ia B (n+2) (cR (n+1) [aU lT n,t,x]) w):=by
 have f:Hid (∀e∈[aU lT n,t,x],In B w (n+1) e):=λe d=>by
  simp only[cv,fW,gd]at d;rcases d with rfl|rfl|rfl
  ·exact gJ _ _ (mL _ (by decide)) _ _
  ·exact b
  ·exact c
 clear b c;go_enter Tryz.func155,Tryz.ntmps155;go_wp2_with fail
 go_region_held3 (λa=>(a.cell? ⟨w.heap.size,1,none⟩=some (.int .i64 t.1.1)/\a.cell? ⟨w.heap.size,2,none⟩=some (.int .i64 t.1.2.1)/\a.cell? ⟨w.heap.size,3,none⟩=some (.string t.1.2.2)/\a.cell? ⟨w.heap.size,4,none⟩=some (.slice t.2.1.1 t.2.2.length t.2.1.2))/\
     (a.cell? ⟨w.heap.size,5,none⟩=some (.int .i64 x.1.1)/\a.cell? ⟨w.heap.size,6,none⟩=some (.int .i64 x.1.2.1)/\a.cell? ⟨w.heap.size,7,none⟩=some (.string x.1.2.2)/\a.cell? ⟨w.heap.size,8,none⟩=some (.slice x.2.1.1 x.2.2.length x.2.1.2))) (first|(go_keep;done)|(simp[go_sem];done))
  ((first|(go_at_call 87;refine(ic _ _).mono ?_;rintro g i ⟨rfl,rfl⟩)|(go_at_call 89;refine(fl _ _ _ _).mono ?_;rintro g i ⟨rfl,rfl⟩)))
 go_wp2_with fail;exact ap (v:=.agg #[.int .i64 4,.int .i64 0,.string ⟨#[]⟩,.slice (some ⟨w.heap.size+1+1+1,0,none⟩) 3 3]) (by simp[results,Tryz.results155,go_sem]) rfl (oh [aU lT n,t,x] gA.1 gA.2 rfl ux rfl (by simp) h f.out)
theorem yB(n:Nat)(t x:Tm (n+1))(s:ByteArray)(v:Int)(B:Nat)(w:World)(b:In B w (n+1) t)(g:B<=w.heap.size):ah 155 #[.agg #[.int .i64 3,.int .i64 t.1.1,.int .i64 t.1.2.1,.string t.1.2.2,.slice t.2.1.1 t.2.2.length t.2.1.2,.int .i64 x.1.1,.int .i64 x.1.2.1,.string x.1.2.2,.slice x.2.1.1 x.2.2.length x.2.1.2,.string s,.int .i64 v]] w (ia B (n+2) (cR (n+1) [aU lS n,t]) w):=by
 have e:Hid (∀d∈[aU lS n,t],In B w (n+1) d):=λd c=>by
  simp only[cv,fW,gd]at c;rcases c with rfl|rfl
  ·exact gJ _ _ (mL _ (by decide)) _ _
  ·exact b
 clear b;go_enter Tryz.func155,Tryz.ntmps155;go_wp2_with fail
 go_region_held3 (λa=>a.cell? ⟨w.heap.size,1,none⟩=some (.int .i64 t.1.1)/\a.cell? ⟨w.heap.size,2,none⟩=some (.int .i64 t.1.2.1)/\a.cell? ⟨w.heap.size,3,none⟩=some (.string t.1.2.2)/\a.cell? ⟨w.heap.size,4,none⟩=some (.slice t.2.1.1 t.2.2.length t.2.1.2)) (first|(go_keep;done)|(simp[go_sem];done))
  ((first|(go_at_call 87;refine(ic _ _).mono ?_;rintro f h ⟨rfl,rfl⟩)|(go_at_call 89;refine(fl _ _ _ _).mono ?_;rintro f h ⟨rfl,rfl⟩)))
 go_wp2_with fail;exact ap (v:=.agg #[.int .i64 4,.int .i64 0,.string ⟨#[]⟩,.slice (some ⟨w.heap.size+1+1+1,0,none⟩) 2 2]) (by simp[results,Tryz.results155,go_sem]) rfl (oh [aU lS n,t] gA.1 gA.2 rfl ux rfl (by simp) g e.out)
theorem yD(n:Nat)(K:Int)(g:(K==1)=false)(h:(K==2)=false)(i:(K==3)=false)(t x:Tm (n+1))(s:ByteArray)(v:Int)(B:Nat)(w:World)(e:B<=w.heap.size):ah 155 #[.agg #[.int .i64 K,.int .i64 t.1.1,.int .i64 t.1.2.1,.string t.1.2.2,.slice t.2.1.1 t.2.2.length t.2.1.2,.int .i64 x.1.1,.int .i64 x.1.2.1,.string x.1.2.2,.slice x.2.1.1 x.2.2.length x.2.1.2,.string s,.int .i64 v]] w (ia B (n+2) (cR (n+1) [aU kU n]) w):=by
 have c:Hid (∀b∈[aU kU n],In B w (n+1) b):=λb a=>by
  simp only[cv,fW,gd]at a;subst a;exact gJ _ _ (mL _ (by decide)) _ _
 go_enter Tryz.func155,Tryz.ntmps155;go_wp2_with (first|(go_at_call 87;refine(ic _ _).mono ?_;rintro d f ⟨rfl,rfl⟩)|(go_at_call 89;refine(fl _ _ _ _).mono ?_;rintro d f ⟨rfl,rfl⟩));exact ap (v:=.agg #[.int .i64 4,.int .i64 0,.string ⟨#[]⟩,.slice (some ⟨w.heap.size+1+1+1,0,none⟩) 1 1]) (by simp[results,Tryz.results155,go_sem]) rfl (oh [aU kU n] gA.1 gA.2 rfl aI rfl (by simp) e c.out)
theorem vw(n:Nat)(t x:Tm (n+1))(s:ByteArray)(v:Int)(c:dh v)(b:s.size<=maxLen)(B:Nat)(w:World)(d:In B w (n+1) x)(i:B<=w.heap.size):ah 155 #[.agg #[.int .i64 2,.int .i64 t.1.1,.int .i64 t.1.2.1,.string t.1.2.2,.slice t.2.1.1 t.2.2.length t.2.1.2,.int .i64 x.1.1,.int .i64 x.1.2.1,.string x.1.2.2,.slice x.2.1.1 x.2.2.length x.2.1.2,.string s,.int .i64 v]] w (ia B (n+2) (cR (n+1) [aU iz n,aU s n,x,bF 5 v n]) w):=by
 have g:Hid (∀f∈[aU iz n,aU s n,x,bF 5 v n],In B w (n+1) f):=λf e=>by
  simp only[cv,fW,gd]at e;rcases e with rfl|rfl|rfl|rfl
  ·exact gJ _ _ (mL _ (by decide)) _ _
  ·exact gJ _ _ b _ _
  ·exact d
  ·exact Ak _ _ _ (by simp[dh]) c _ _
 clear d b c;go_enter Tryz.func155,Tryz.ntmps155;go_wp2_with fail
 go_region_held3 (λa=>(a.cell? ⟨w.heap.size,9,none⟩=some (.string s)/\a.cell? ⟨w.heap.size,10,none⟩=some (.int .i64 v))/\
     (a.cell? ⟨w.heap.size,5,none⟩=some (.int .i64 x.1.1)/\a.cell? ⟨w.heap.size,6,none⟩=some (.int .i64 x.1.2.1)/\a.cell? ⟨w.heap.size,7,none⟩=some (.string x.1.2.2)/\a.cell? ⟨w.heap.size,8,none⟩=some (.slice x.2.1.1 x.2.2.length x.2.1.2))) (first|(go_keep;done)|(simp[go_sem];done))
  ((first|(go_at_call 87;refine(ic _ _).mono ?_;rintro h j ⟨rfl,rfl⟩)|(go_at_call 89;refine(fl _ _ _ _).mono ?_;rintro h j ⟨rfl,rfl⟩)))
 all_goals go_wp2_with fail
 all_goals exact ap (v:=.agg #[.int .i64 4,.int .i64 0,.string ⟨#[]⟩,.slice (some ⟨w.heap.size+1+1+1+1,0,none⟩) 4 4]) (by simp[results,Tryz.results155,go_sem]) rfl (oh [aU iz n,aU s n,x,bF 5 v n] rX.1 rX.2 rfl ux rfl (by simp) i g.out)
theorem Bj(n:Nat)(a:Ac (n+1))(B:Nat)(w:World)(o:gZ (n+1) B w a)(c:B<=w.heap.size):ah 155 #[.agg (fM (n+1) a).toArray] w (ia B (n+2) (bU n a) w):=by
 obtain⟨b,⟨t,f⟩,d,e⟩:=a;obtain⟨p,j,k,l,m⟩:=o;unfold bU;by_cases g:b=1
 ·subst g;exact yC n t f d e B w j k c
 by_cases h:b=2
 ·subst h;exact vw n t f d e m l B w k c
 by_cases i:b=3
 ·subst i;exact yB n t f d e B w j c
 ·simp only[g,h,i,if_false];exact yD n b (by simpa using g) (by simpa using h) (by simpa using i) t f d e B w c
end Go.Proofs.YtckamaoibonjcaaGreat
