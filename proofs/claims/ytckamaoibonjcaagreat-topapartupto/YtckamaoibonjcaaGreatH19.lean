/- What is proved here: plain facts and contracts that the claimed theorem stands on. No condition but those that each names. -/
import Derived.Test.YtckamaoibonjcaaGreatH18
namespace Go.Proofs.YtckamaoibonjcaaGreat
open Go.RowKit Go.Maps
open Go.RowKit
set_option maxHeartbeats 2000000
set_option maxRecDepth 100000
theorem BH{w w1:World}{vs:List Wd}{a:Option Addr}(c:eA w vs a)(d:ai w w1):eA w1 vs a:=by
 rcases c with c|⟨b,o,i,e,c⟩
 ·exact ag c
 ·exact ah ⟨b,o,i,aL e d.size,λg h f=>⟨(ap d b _ e).trans (c g h f).1,(ap d b _ e).trans (c g h f).2⟩⟩
def DI(ws:List Wd)(nm:List ByteArray)(n:Nat)(vs:List Wd)(p:List (Tm n)):Prop:=
 gn ws nm n vs p/\(∀a∈p,aA ⟨n,a⟩)/\(∀a∈p,aH n a=true)/\(p.map λa=>1+sz n a).sum<=90000/\(p.flatMap λa=>av n a).length<=90000/\vs.length<=1000
def jq(ws:List Wd)(n:Nat)(vs:List Wd):List Wd×List Wd×cQ:=gB (jm ws n) vs ([],[])
theorem DI.all{ws:List Wd}{nm:List ByteArray}{n:Nat}{vs:List Wd}{p:List (Tm n)}(b:DI ws nm n vs p)(g:ws.length<=1000)(f:nm.length<=50000):vs.all (cE ws nm)=true/\∀v∈vs,dk v.2:=by
 have key:∀v∈vs,cE ws nm v=true/\dk v.2:=λv a=>by
  obtain⟨d,c,e⟩:=b.1.mem a;exact Bm e (b.2.1 d c) (b.2.2.1 d c) (by omega) (by omega)
 exact⟨b9.2 λv a=>(key v a).1,λv a=>(key v a).2⟩
def xp(base:Nat)(a:ci)(room:Int)(R:List Wd×List Wd×cQ)(nm:List ByteArray)(M:Nat->Prop)(g:Nat)(w w':World):Prop:=
 dy base a room R.2.1 nm (λb=>(M b\/w.heap.size<=b)/\b≠g) w'/\bO M w w'/\eA w' R.1 (some ⟨g,0,none⟩)/\w.heap.size<=g/\g<w'.heap.size/\∃len,w'.ownsRow g 105 2 (.slice (some ⟨g,0,none⟩) len len) len (aU R.1)
theorem xk{w:World}{g base len:Nat}{vs:List Wd}(a:w.ownsRow base 105 2 (.slice (some ⟨g,0,none⟩) len len) len (aU vs)):eA w vs (some ⟨g,0,none⟩)/\g<w.heap.size:=by
 refine⟨ah ⟨g,0,rfl,(a.lt g rfl).2,λc d b=>?_⟩,(a.lt g rfl).2⟩;have:=iG a c d b;rw[cP];exact this
theorem Hx{base:Nat}{d:ci}{room:Int}{ws:List Wd}{nm:List ByteArray}{M:Nat->Prop}{R:List Wd×List Wd×cQ}{len g:Nat}{tv:Value}{w w1 w2:World}(j:dy base d room ws nm M w)(h:ai w w1)(p:ko R len g tv w1 w2)(t:base<=w.heap.size):xp base d room R nm M g w (w2.setCell ⟨d.b,d.o+1,none⟩ tv):=by
 have u:=zJ j h p t;obtain⟨z,q,i,F,B⟩:=p;have v:=h.size;have s:=h.trans (z.mono v);obtain⟨G,x,y,e,C,f,l,D,m,n⟩:=j.later s;have k:=bi w2 d.b (d.o+1) tv;have r:∀b,tv.ownBlock=some b->w1.heap.size<=b:=λb a=>(q.lt b a).1;have E:d.b<w.heap.size:=l.2;refine⟨⟨tv,x,y,e.set1 tv,dK (qK q (by omega)) k (λb a c=>?_),f.kept k (λb a c=>?_) (λb a c=>?_),⟨ag l.1,by omega⟩,λb a=>⟨ah (by have:=r b a;omega),λc=>B (by rw[a,c])⟩,λb a=>⟨ag (m b a).1,by have:=(m b a).2;omega⟩,λb a=>⟨ag (n b a).1,by have:=(n b a).2;omega⟩⟩,u.2,?_,by omega,?_,?_⟩
 ·subst c;have:=r _ a;omega
 ·subst c;exact mN f.1 e (by decide) a
 ·subst c;exact tp f e a
 ·have A:=dK i k (λb a c=>by
    subst c;simp only[Value.ownBlock]at a;have:=au a
    omega)
  exact(xk A).1
 ·have:=(xk i).2;simpa [World.setCell]using this
 ·exact⟨len,dK i k (λb a c=>by
    subst c;simp only[Value.ownBlock]at a;have:=au a
    omega)⟩
theorem xU(n:Nat)(p:List (Tm n))(vs:List Wd)(a:Option Addr)(pc base:Nat)(f:ci)(room:Int)(ws:List Wd)(nm:List ByteArray)(M:Nat->Prop)(w:World)(j:dy base f room ws nm M w)(d:DI ws nm n vs p)(r:eA w vs a)(C:∀b o,a=some ⟨b,o,none⟩->b<w.heap.size)(z:base<=w.heap.size)(E:ws.length<=1000)(D:nm.length<=50000):ak 165 #[.pointer (some ⟨f.b,f.o,none⟩),.slice a vs.length pc] w λe w'=>∃g,e=.returned (.tuple #[.slice (some ⟨g,0,none⟩) vs.length vs.length,ab 0])/\Hid (xp base f room (jq ws n vs) nm M g w w'):=by
 obtain⟨y,B⟩:=d.all E D;obtain⟨t,P,Q,m,q,J,K,L,N,O⟩:=id j;obtain⟨⟨F,v,G,H⟩,A⟩:=m.cells;obtain⟨h,i,rfl⟩:∃h i,t=.slice h ws.length i:=by
  rcases q.2 with⟨e,x⟩|⟨g,c,I,e,_⟩
  ·exact⟨none,0,by rw[e,x]⟩
  ·exact⟨_,c,e⟩
 refine(xK (jq ws n vs) f h ws.length i a vs.length pc w m.lt v (A _) ?_ ?_).mono ?_
 ·have s:=xz base f room ws nm M vs a vs.length pc w j (by omega) rfl (by have:=d.2.2.2.2.2;omega) r B;rw[y]at s;exact s
 ·intro u k;refine AZ ws nm n vs p base (.slice h ws.length i) a pc u (dG q k) d.1 d.2.1 (by omega) (by have:=d.2.2.2.2.2;omega) d.2.2.2.1 d.2.2.2.2.1 (BH r k) ?_;intro b o e;exact aL (C b o e) k.size
 ·rintro e w' ⟨g,t,u,R,rfl,rfl,l⟩;exact⟨g,rfl,Hx j l.out.1 l.out.2 z⟩
def oq(ws:List Wd):Nat->Wd->List Nat
 | 0,_=> []
 | n+1,v=>if v.1=4 then
    match ws[v.2.toNat]? with
    | some a=>v.2.toNat::(cg ws v.2.toNat a.2.toNat).flatMap (oq ws n)
    | none=> []
  else []
theorem lO{ws:List Wd}{n:Nat}{v:Wd}(a:v.1≠4):oq ws n v=[]:=by
 cases n with
 | zero=>rfl
 | succ n=>simp[oq,a]
theorem qM{ws:List Wd}{n p m:Nat}(a:ws[p]?=some (0,(m:Int))):oq ws (n+1) (4,(p:Int))=p::(cg ws p m).flatMap (oq ws n):=by
 simp[oq,a]
theorem wv{nm:List ByteArray}{s:ByteArray}(a:s∈nm):ew nm s=nm:=by
 unfold ew;rw[if_pos ((yj nm s).2 a)]
theorem zK{ws:List Wd}{nm:List ByteArray}{n:Nat}(ih:∀(x:Tm n)(v:Wd)(S:List Wd×cQ),dz ws nm n x v->(oq ws n v).Nodup->(∀p∈oq ws n v,look S.2 p=none)->((jm ws n v S).1=(aS n x S.1 nm).1/\(jm ws n v S).2.1=(aS n x S.1 nm).2.1/\(aS n x S.1 nm).2.2=nm)/\∀p,look (jm ws n v S).2.2 p=none ↔ look S.2 p=none/\p∉oq ws n v):(us:List Wd)->(ys:List (Tm n))->gn ws nm n us ys->(S:List Wd×cQ)->(us.flatMap (oq ws n)).Nodup->(∀p∈us.flatMap (oq ws n),look S.2 p=none)-> ((gB (jm ws n) us S).1=(bF (aS n) ys S.1 nm).1/\(gB (jm ws n) us S).2.1=(bF (aS n) ys S.1 nm).2.1/\(bF (aS n) ys S.1 nm).2.2=nm)/\∀p,look (gB (jm ws n) us S).2.2 p=none ↔ look S.2 p=none/\p∉us.flatMap (oq ws n)
 | us,ys,a,S,hn,hl=>by
  induction us generalizing ys S with
  | nil=>
   obtain rfl:ys=[]:=by have:=a.1;cases ys with|nil=>rfl|cons e l=>simp at this
   simp[gB,bF]
  | cons v us z=>
   cases ys with
   | nil=>have:=a.1;simp at this
   | cons d ys=>
    have r:dz ws nm n d v:=a.2 0 v d (by simp) (by simp);have w:gn ws nm n us ys:=⟨by have:=a.1;simpa using this,λy e b s t=>a.2 (y+1) e b (by simpa using s) (by simpa using t)⟩;rw[bv]at hn hl;obtain⟨A,B,C⟩:=eL.1 hn;obtain⟨⟨g,h,i⟩,f⟩:=ih d v S r A (λp c=>hl p (mh _ c));have u:∀p∈us.flatMap (oq ws n),look (jm ws n v S).2.2 p=none:=λp c=>(f p).2 ⟨hl p (List.mem_append_right _ c),λq=>C p q p c rfl⟩;obtain⟨⟨j,k,m⟩,o⟩:=z ys w (jm ws n v S).2 B u;simp only[gB,bF];rw[i,<-h];refine⟨⟨by rw[g,j],k,m⟩,λp=>?_⟩;rw[o p,f p,bv,da,not_or,and_assoc]
theorem DV{ws:List Wd}{nm:List ByteArray}(g:nm.Nodup):(n:Nat)->(x:Tm n)->(v:Wd)->(S:List Wd×cQ)->dz ws nm n x v->(oq ws n v).Nodup->(∀p∈oq ws n v,look S.2 p=none)-> ((jm ws n v S).1=(aS n x S.1 nm).1/\(jm ws n v S).2.1=(aS n x S.1 nm).2.1/\(aS n x S.1 nm).2.2=nm)/\∀p,look (jm ws n v S).2.2 p=none ↔ look S.2 p=none/\p∉oq ws n v
 | 0,_,_,_,h,_,_=>h.elim
 | n+1,x,v,S,h,hn,hl=>by
  by_cases b:x.1.1=4
  ·obtain⟨p,rfl,i,u,s⟩:=jb h b;rw[qM i]at hn hl ⊢;have o:=hl p (by simp);rw[xN o i];have r:=j8.1 hn;obtain⟨⟨k,f,l⟩,m⟩:=zK (λx v S=>DV g n x v S) (cg ws p x.2.2.length) x.2.2 s S r.2 (λq c=>hl q (bH _ c));have e:aS (n+1) x S.1 nm=((4,((bF (aS n) x.2.2 S.1 nm).2.1.length:Int)),(bF (aS n) x.2.2 S.1 nm).2.1++(0,(x.2.2.length:Int))::(bF (aS n) x.2.2 S.1 nm).1,(bF (aS n) x.2.2 S.1 nm).2.2):=by
    simp only[aS];rw[if_neg (by omega),if_pos b]
   rw[e];refine⟨⟨by rw[f],by rw[k,f],l⟩,λq=>?_⟩;by_cases c:q=p
   ·subst c;rw[rF];simp
   ·rw[pG _ _ c,m q];simp[c]
  ·have j:=ir h b;rw[tY j,lO j];refine⟨⟨?_,?_,?_⟩,λq=>by simp⟩
   ·simp only[aS];by_cases a:x.1.1=2
    ·rw[if_pos a];obtain⟨t,rfl,d⟩:=h.1 a;rw[wv (aG d),AE g d]
    ·rw[if_neg a,if_neg b];exact h.2.2 a b
   ·simp only[aS];split
    ·rfl
    ·rfl
   ·simp only[aS];split
    ·rename_i a;obtain⟨t,rfl,d⟩:=h.1 a;exact wv (aG d)
    ·rfl
theorem CW{ws a:List Wd}(b:ws <+:a){p m:Nat}(c:p+1+m<=ws.length):cg a p m=cg ws p m:=by
 obtain⟨t,rfl⟩:=b;unfold cg;rw[oD (by omega),jj (by rw[eK];omega)]
theorem Lr{ws b:List Wd}(c:ws <+:b){p:Nat}{v:Wd}(a:ws[p]?=some v):b[p]?=some v:=by
 obtain⟨t,rfl⟩:=c;rw[dg (aM.1 a).1];exact a
theorem mF{c e:Type}{f g:c->List e}:{l:List c}->(∀a∈l,f a=g a)->l.flatMap f=l.flatMap g
 | [],_=>rfl
 | a::l,h=>by rw[bv,bv,h a (by simp),mF (l:=l) λb d=>h b (by simp[d])]
theorem qL{ws d:List Wd}{nm:List ByteArray}(b:ws <+:d):(n:Nat)->(x:Tm n)->(v:Wd)->dz ws nm n x v->oq d n v=oq ws n v
 | 0,_,_,h=>h.elim
 | n+1,x,v,h=>by
  by_cases a:x.1.1=4
  ·obtain⟨p,rfl,c,e,f⟩:=jb h a;rw[qM c,qM (Lr b c),CW b e];congr 1;refine mF λj g=>?_;obtain⟨y,_,i⟩:=f.mem g;exact qL b n y j i
  ·rw[lO (ir h a),lO (ir h a)]
theorem yq{ws:List Wd}{nm:List ByteArray}:(n:Nat)->(x:Tm n)->(v:Wd)->dz ws nm n x v->∀p∈oq ws n v,p<ws.length
 | 0,_,_,h,_,_=>h.elim
 | n+1,x,v,h,q,a=>by
  by_cases b:x.1.1=4
  ·obtain⟨p,rfl,c,i,d⟩:=jb h b;rw[qM c,cB,jg]at a;rcases a with rfl|⟨g,e,a⟩
   ·omega
   ·obtain⟨y,_,f⟩:=d.mem e;exact yq n y g f q a
  ·rw[lO (ir h b)]at a;cases a
theorem ut{n:Nat}(ih:∀(x:Tm n)(ws:List Wd)(nm:List ByteArray),aA ⟨n,x⟩->(oq (aS n x ws nm).2.1 n (aS n x ws nm).1).Nodup/\∀p∈oq (aS n x ws nm).2.1 n (aS n x ws nm).1,ws.length<=p):(l:List (Tm n))->(ws:List Wd)->(nm:List ByteArray)->(∀y∈l,aA ⟨n,y⟩)->((bF (aS n) l ws nm).1.flatMap (oq (bF (aS n) l ws nm).2.1 n)).Nodup/\∀p∈(bF (aS n) l ws nm).1.flatMap (oq (bF (aS n) l ws nm).2.1 n),ws.length<=p
 | [],_,_,_=>by simp[bF]
 | y::l,ws,nm,hr=>by
  have f:=ih y ws nm (hr y (by simp));have g:=gC n y ws nm (hr y (by simp));have d:=ut ih l (aS n y ws nm).2.1 (aS n y ws nm).2.2 (λo m=>hr o (by simp[m]));have c:=(qz (λx ws nm=>lI n x ws nm) l (aS n y ws nm).2.1 (aS n y ws nm).2.2).1;have k:=qL c n y _ g;have j:=yq n y _ g;have q:=(lI n y ws nm).1.length_le;simp only[bF,bv];rw[k];refine⟨eL.2 ⟨f.1,d.1,λa h b i e=>?_⟩,λp c=>?_⟩
  ·have:=j a h;have:=d.2 b i;omega
  ·rcases da.1 c with c|c
   ·exact f.2 p c
   ·have:=d.2 p c;omega
theorem xY:(n:Nat)->(x:Tm n)->(ws:List Wd)->(nm:List ByteArray)->aA ⟨n,x⟩->(oq (aS n x ws nm).2.1 n (aS n x ws nm).1).Nodup/\∀p∈oq (aS n x ws nm).2.1 n (aS n x ws nm).1,ws.length<=p
 | 0,_,_,_,h=>(cZ h).elim
 | n+1,x,ws,nm,h=>by
  by_cases q:x.1.1=4
  ·have e:aS (n+1) x ws nm=((4,((bF (aS n) x.2.2 ws nm).2.1.length:Int)),(bF (aS n) x.2.2 ws nm).2.1++(0,(x.2.2.length:Int))::(bF (aS n) x.2.2 ws nm).1,(bF (aS n) x.2.2 ws nm).2.2):=by
     simp only[aS];rw[if_neg (by omega),if_pos q]
   have r:∀o∈x.2.2,aA ⟨n,o⟩:=λo B=>aR n x o h B;have k:=ut (λx ws nm l=>xY n x ws nm l) x.2.2 ws nm r;have A:=(qz (λx ws nm=>lI n x ws nm) x.2.2 ws nm).1.length_le;have s:=nC (λx ws nm l=>gC n x ws nm l) x.2.2 ws nm r;have v:=gD (aS n) x.2.2 ws nm;rw[e];generalize (bF (aS n) x.2.2 ws nm).2.1=c at*;generalize (bF (aS n) x.2.2 ws nm).1=d at*;generalize (bF (aS n) x.2.2 ws nm).2.2=D at*;have t:(c++(0,(x.2.2.length:Int))::d)[c.length]?=some (0,(x.2.2.length:Int)):=by simp
   have z:cg (c++(0,(x.2.2.length:Int))::d) c.length x.2.2.length=d:=by rw[<-v];exact F9 (gg _)
   have y:d.flatMap (oq (c++(0,(x.2.2.length:Int))::d) n)=d.flatMap (oq c n):=mF λm j=>by
    obtain⟨i,f⟩:=cJ j;have u:=(aM.1 f).1;obtain⟨C,b,g⟩:=s i (x.2.2[i]'(by omega)) (aE _);rw[f]at b;injection b with b;subst b;exact qL (oH _ _) n _ m g
   have w:∀p∈d.flatMap (oq c n),p<c.length:=λp a=>by
    obtain⟨m,j,a⟩:=jg.1 a;obtain⟨i,f⟩:=cJ j;have u:=(aM.1 f).1;obtain⟨C,b,g⟩:=s i (x.2.2[i]'(by omega)) (aE _);rw[f]at b;injection b with b;subst b;exact yq n _ m g p a
   simp only;rw[qM t,z,y];refine⟨j8.2 ⟨λa=>by have:=w _ a;omega,k.1⟩,λp a=>?_⟩;rcases cB.1 a with rfl|a
   ·exact A
   ·exact k.2 p a
  ·have g:=gC (n+1) x ws nm h;rw[lO (ir g q)];simp
theorem Aq(n:Nat):(l:List (Tm n))->(ws:List Wd)->(nm:List ByteArray)->((bF (aS n) l ws nm).2.1.length:Int)=ws.length+(l.map (sz n)).sum
 | [],_,_=>by simp[bF]
 | y::l,ws,nm=>by
  have a:=(iq n y ws nm).1;have b:=Aq n l (aS n y ws nm).2.1 (aS n y ws nm).2.2;simp only[bF,aI,bC];omega
theorem C6{ws:List Wd}{nm:List ByteArray}(d:nm.Nodup){n:Nat}{vs:List Wd}{p:List (Tm n)}(b:gn ws nm n vs p)(c:(vs.flatMap (oq ws n)).Nodup):(jq ws n vs).1=(bF (aS n) p [] nm).1/\(jq ws n vs).2.1=(bF (aS n) p [] nm).2.1/\(bF (aS n) p [] nm).2.2=nm:=
 (zK (λf e a=>DV d n f e a) vs p b ([],[]) c (λ_ _=>rfl)).1
def nd:ByteArray:=⟨#[99,111,100,101]⟩
def te:ByteArray:=⟨#[98,101,104]⟩
def Kj:ByteArray:=⟨#[111,110]⟩
def lU:ByteArray:=⟨#[115,101,110,100]⟩
def iF:ByteArray:=⟨#[115,112,97,119,110]⟩
def lT:ByteArray:=⟨#[108,105,110,107]⟩
def ld:ByteArray:=⟨#[115,116,111,112]⟩
def eF(n:Nat)(x:Tm n):Bool:=(fX n x).1.1==0 && (fX n x).1.2.1==0 && (fX n x).1.2.2.toList.isEmpty && ((fX n x).2.2.1:Int)==0
def vx(s:ByteArray)(v:Int):Bool:=s.toList.isEmpty && v==0
def nh(n:Nat)(a:Ac n):Bool:=
 if a.1=1 then vx a.2.2.1 a.2.2.2
 else if a.1=2 then eF n a.2.1.1 && dE a.2.2.1 && decide (0<=a.2.2.2) && decide (a.2.2.2<4)
 else if a.1=3 then eF n a.2.1.2 && vx a.2.2.1 a.2.2.2
 else if a.1=4 then eF n a.2.1.1 && eF n a.2.1.2 && vx a.2.2.1 a.2.2.2
 else false
def sO(n:Nat)(c:Cl n):Bool:=decide ((c.2.2.length:Int)<=8) && c.2.2.all (nh n)
def vt(n:Nat)(b:Bh n):Bool:=dE b.1 && decide (1<=(b.2.2.length:Int)) && decide ((b.2.2.length:Int)<=6) && b.2.2.all (sO n)
def jP(n:Nat)(l:List (Bh n)):Bool:=decide (1<=(l.length:Int)) && decide ((l.length:Int)<=7) && l.all (vt n)
def aW(s:ByteArray)(N:Nat):Tm (N+1):=((2,0,s),(none,0),[])
def bY(n:Nat)(a:Ac (n+1)):Tm (n+2):=
 if a.1=1 then cU (n+1) [aW lU n,a.2.1.1,a.2.1.2]
 else if a.1=2 then cU (n+1) [aW iF n,aW a.2.2.1 n,a.2.1.2,bJ 5 a.2.2.2 n]
 else if a.1=3 then cU (n+1) [aW lT n,a.2.1.1]
 else cU (n+1) [aW ld n]
def du(n:Nat)(c:Cl (n+1)):Tm (n+4):=
 cU (n+3) [aW Kj (n+2),aN (n+3) (n+1) c.1.1,aN (n+3) (n+1) c.1.2.1,cU (n+2) (c.2.2.map (bY n)),aN (n+3) (n+1) c.1.2.2]
def dC(n:Nat)(b:Bh (n+1)):Tm (n+5):=cU (n+4) (aW te (n+3)::aW b.1 (n+3)::b.2.2.map (du n))
def bW(n:Nat)(l:List (Bh (n+1))):Tm (n+6):=cU (n+5) (aW nd (n+4)::l.map (dC n))
def eD{a b:Type}(R:a->b->Prop)(l:List a)(r:List b):Prop:=l.length=r.length/\∀(i:Nat)(x:a)(y:b),l[i]?=some x->r[i]?=some y->R x y
theorem eD.nil{b c:Type}{R:b->c->Prop}:eD R [] []:=⟨rfl,λi x y a=>by simp at a⟩
theorem eD.snoc{g h:Type}{R:g->h->Prop}{l:List g}{r:List h}(d:eD R l r){x:g}{y:h}(k:R x y):eD R (l++ [x]) (r++ [y]):=by
 refine⟨by simp[d.1],λf j b a c=>?_⟩;by_cases i:f<l.length
 ·rw[dg i]at a;rw[dg (by rw[<-d.1];exact i)]at c;exact d.2 f j b a c
 ·rw[dN (by omega)]at a;rw[dN (by rw[<-d.1];omega)]at c;have e:f-l.length=0:=by
   by_cases e:f-l.length=0
   ·exact e
   ·rw[eg (by simp;omega)]at a;cases a
  rw[<-d.1,e]at c;rw[e]at a;simp at a c;rw[<-a,<-c];exact k
theorem eD.tail{c d:Type}{R:c->d->Prop}{x:c}{y:d}{l:List c}{r:List d}(a:eD R (x::l) (y::r)):R x y/\eD R l r:=
 ⟨a.2 0 x y (by simp) (by simp),by simpa using a.1,λh e b f g=>a.2 (h+1) e b (by simpa using f) (by simpa using g)⟩
theorem eD.all{a b:Type}{R:a->b->Prop}(f:a->Bool)(g:b->Bool)(c:∀x y,R x y->f x=g y):(l:List a)->(r:List b)->eD R l r->l.all f=r.all g
 | [],[],_=>rfl
 | [],_::_,h=>by have:=h.1;simp at this
 | _::_,[],h=>by have:=h.1;simp at this
 | x::l,y::r,h=>by
  simp only[iK,c x y h.tail.1,eD.all f g c l r h.tail.2]
theorem eD.same{c d:Type}{R:c->d->Prop}{n m:Nat}(f:c->Tm n)(g:d->Tm m)(e:∀x y,R x y->aw n (f x) m (g y)=true):(l:List c)->(r:List d)->eD R l r->ay (λa b=>aw n a m b) (l.map f) (r.map g)=true
 | [],[],_=>rfl
 | [],_::_,h=>by have:=h.1;simp at this
 | _::_,[],h=>by have:=h.1;simp at this
 | x::l,y::r,h=>by
  simp only[aI,ay,aB];exact⟨e x y h.tail.1,eD.same f g e l r h.tail.2⟩
def BU(n:Nat)(a b:Ac n):Prop:=a.1=b.1/\aw n a.2.1.1 n b.2.1.1=true/\aw n a.2.1.2 n b.2.1.2=true/\a.2.2=b.2.2
def BO(n:Nat)(a b:Cl n):Prop:=(aw n a.1.1 n b.1.1=true/\aw n a.1.2.1 n b.1.2.1=true/\aw n a.1.2.2 n b.1.2.2=true)/\eD (BU n) a.2.2 b.2.2
def xA(n:Nat)(a b:Bh n):Prop:=a.1=b.1/\eD (BO n) a.2.2 b.2.2
theorem Ev{n m:Nat}{x:Tm n}{y:Tm m}(a:aw n x m y=true):(fX n x).1=(fX m y).1/\(fX n x).2.2.1=(fX m y).2.2.1:=by
 cases n with
 | zero=>simp[aw]at a
 | succ n=>
  cases m with
  | zero=>simp[aw]at a
  | succ m=>
   have b:=bA a;have c:=cw _ _ _ b.2;simp only[fX,bu];exact⟨b.1,c⟩
theorem qO{n m:Nat}{x:Tm n}{y:Tm m}(b:aw n x m y=true):eF n x=eF m y:=by
 have a:=Ev b;simp only[eF,a.1,a.2]
theorem NJ{n:Nat}{a b:Ac n}(c:BU n a b):nh n a=nh n b:=by
 obtain⟨d,e,f,g⟩:=c;simp only[nh,d,g,qO e,qO f]
theorem NL{n:Nat}{a b:Cl n}(c:BO n a b):sO n a=sO n b:=by
 simp only[sO,c.2.1,eD.all (R:=BU n) (nh n) (nh n) (λ_ _ c=>NJ c) _ _ c.2]
theorem NK{n:Nat}{a b:Bh n}(c:xA n a b):vt n a=vt n b:=by
 simp only[vt,c.1,c.2.1,eD.all (R:=BO n) (sO n) (sO n) (λ_ _ c=>NL c) _ _ c.2]
theorem Jf{n:Nat}{l r:List (Bh n)}(a:eD (xA n) l r):jP n l=jP n r:=by
 simp only[jP,a.1,eD.all (R:=xA n) (vt n) (vt n) (λ_ _ a=>NK a) _ _ a]
theorem dI(s:ByteArray)(N M:Nat):aw (N+1) (aW s N) (M+1) (aW s M)=true:=cX rfl rfl
theorem CD(k a:Int)(N M:Nat):aw (N+1) (bJ k a N) (M+1) (bJ k a M)=true:=cX rfl rfl
theorem gH{N M:Nat}{l:List (Tm N)}{r:List (Tm M)}(c:ay (λa b=>aw N a M b) l r=true):aw (N+1) (cU N l) (M+1) (cU M r)=true:=cX rfl c
theorem lJ:(N n:Nat)->n<=N->(x:Tm n)->aw n x n x=true->aw N (aN N n x) n x=true
 | _,0,_,_,h=>by simp[aw]at h
 | 0,n+1,h,_,_=>by omega
 | N+1,n+1,h,x,hr=>by
  have b:=(bA hr).2;refine cX rfl (iz _ _ _ λy c=>lJ N n (by omega) y ?_);obtain⟨i,a⟩:=cJ c;exact iZ _ _ _ b i y y a a
theorem wR{n m:Nat}{x:Tm n}{y:Tm m}(a:aw n x m y=true):aw n x n x=true:=bD _ _ _ _ _ _ a (dq _ _ _ _ a)
theorem Da{n m:Nat}{x:Tm n}{y:Tm m}(a:aw n x m y=true):aw m y m y=true:=bD _ _ _ _ _ _ (dq _ _ _ _ a) a
theorem oe{N n m:Nat}(c:n<=N)(b:m<=N){x:Tm n}{y:Tm m}(a:aw n x m y=true):aw N (aN N n x) N (aN N m y)=true:=
 bD _ _ _ _ _ _ (lJ N n c x (wR a)) (bD _ _ _ _ _ _ a (dq _ _ _ _ (lJ N m b y (Da a))))
theorem kU{B:Nat}{w:World}:{n:Nat}->{x:Tm n}->In B w n x->aw n x n x=true
 | 0,_,k=>k.elim
 | n+1,x,k=>by
  refine cX rfl (iA _ _ λy a=>?_);obtain⟨i,c⟩:=cJ a;rcases k.2 with e|⟨b,o,_,_,d⟩
  ·rw[e]at a;cases a
  ·exact kU (d i y c).2
theorem Hd{n:Nat}{a b:Ac (n+1)}(e:BU (n+1) a b):aw (n+2) (bY n a) (n+2) (bY n b)=true:=by
 obtain⟨f,c,d,g⟩:=e;unfold bY;rw[f,g];split
 ·exact gH (by simp[ay,dI,c,d])
 split
 ·exact gH (by simp[ay,dI,CD,d])
 split
 ·exact gH (by simp[ay,dI,c])
 ·exact gH (by simp[ay,dI])
theorem Ht{n:Nat}{a b:Cl (n+1)}(c:BO (n+1) a b):aw (n+4) (du n a) (n+4) (du n b)=true:=by
 have d:=eD.same (bY n) (bY n) (λ_ _ c=>Hd c) _ _ c.2;exact gH (by simp only[ay,aB];exact⟨dI _ _ _,oe (by omega) (by omega) c.1.1,oe (by omega) (by omega) c.1.2.1,gH d,oe (by omega) (by omega) c.1.2.2,trivial⟩)
theorem Hj{n:Nat}{a b:Bh (n+1)}(c:xA (n+1) a b):aw (n+5) (dC n a) (n+5) (dC n b)=true:=by
 have d:=eD.same (du n) (du n) (λ_ _ c=>Ht c) _ _ c.2;refine gH ?_;simp only[ay,aB];exact⟨dI _ _ _,by rw[c.1];exact dI _ _ _,d⟩
theorem Jg{n:Nat}{l r:List (Bh (n+1))}(a:eD (xA (n+1)) l r):aw (n+6) (bW n l) (n+6) (bW n r)=true:=by
 have b:=eD.same (dC n) (dC n) (λ_ _ a=>Hj a) _ _ a;refine gH ?_;simp only[ay,aB];exact⟨dI _ _ _,b⟩
theorem dt(k b:Int)(s:ByteArray)(a:Option Addr)(l c:Nat)(w:World):ak 168 #[.agg #[ab k,ab b,ae s,.slice a l c]] w λe w'=>e=.returned (.bool (k==0 && b==0 && s.toList.isEmpty && (l:Int)==0))/\w'=w.alloc (.cells #[ab k,ab b,ae s,.slice a l c] 30):=by
 cases h1:k==0
 ·go_enter Tryz.func168,Tryz.ntmps168;go_wp2_with fail
  go_ret
  exact⟨rfl,rfl⟩
 cases h2:b==0
 ·go_enter Tryz.func168,Tryz.ntmps168;go_wp2_with fail
  go_ret
  exact⟨rfl,rfl⟩
 cases h3:s.toList.isEmpty
 ·go_enter Tryz.func168,Tryz.ntmps168;go_wp2_with fail
  go_ret
  exact⟨rfl,rfl⟩
 go_enter Tryz.func168,Tryz.ntmps168;go_wp2_with fail
 go_ret
 exact⟨rfl,rfl⟩
theorem pP(K a t1 f g v:Int)(t2 h s:ByteArray)(b i:Option Addr)(c d j k:Nat)(w:World):ak 167 #[.agg #[ab K,ab a,ab t1,ae t2,.slice b c d,ab f,ab g,ae h,.slice i j k,ae s,ab v]] w λe w'=>e=.returned (.bool (vx s v))/\w'=w.alloc (.cells #[ab K,ab a,ab t1,ae t2,.slice b c d,ab f,ab g,ae h,.slice i j k,ae s,ab v] 224):=by
 unfold vx;cases h3:s.toList.isEmpty
 ·go_enter Tryz.func167,Tryz.ntmps167;go_wp2_with fail
  go_ret
  exact⟨rfl,rfl⟩
 go_enter Tryz.func167,Tryz.ntmps167;go_wp2_with fail
 go_ret
 exact⟨rfl,rfl⟩
theorem Cx(K o t1 q r v:Int)(t2 t s:ByteArray)(x z:Option Addr)(p y u A:Nat)(w:World)(m:s.size<=9223372036854775807)(h i l n:Bool)(a:Hid ((o==0 && t1==0 && t2.toList.isEmpty && (p:Int)==0)=h))(d:Hid ((q==0 && r==0 && t.toList.isEmpty && (u:Int)==0)=i))(j:Hid (vx s v=l))(f:Hid (dE s=n)):ak 154 #[.agg #[ab K,ab o,ab t1,ae t2,.slice x p y,ab q,ab r,ae t,.slice z u A,ae s,ab v]] w λe w'=>e=.returned (.bool (if K=1 then l else if K=2 then h && n && decide (0<=v) && decide (v<4)else if K=3 then i && l else if K=4 then h && i && l else false))/\ai w w':=by
 by_cases b:K=1
 ·subst b;rw[if_pos rfl];go_enter Tryz.func154,Tryz.ntmps154;go_wp2_with (go_at_call 167;refine(pP _ _ _ _ _ _ _ _ _ _ _ _ _ _ _ _).mono ?_;rintro e w' ⟨rfl,rfl⟩;rw[j.out])
  go_ret
  exact⟨rfl,by go_grown⟩
 rw[if_neg b];by_cases c:K=2
 ·subst c;rw[if_pos rfl];clear d j b;cases h
  ·go_enter Tryz.func154,Tryz.ntmps154;go_wp2_with (go_at_call 168;refine(dt _ _ _ _ _ _ _).mono ?_;rintro e w' ⟨rfl,rfl⟩;rw[a.out])
   go_ret
   exact⟨rfl,by go_grown⟩
  cases n
  ·go_enter Tryz.func154,Tryz.ntmps154;go_wp2_with (first|(go_at_call 168;refine(dt _ _ _ _ _ _ _).mono ?_;rintro e w' ⟨rfl,rfl⟩;rw[a.out])|(go_at_call 64;refine(ip _ _ m).mono ?_;rintro e w' ⟨rfl,rfl⟩;rw[f.out]))
   go_ret
   exact⟨rfl,by go_grown⟩
  cases hv:decide (0<=v)
  ·go_enter Tryz.func154,Tryz.ntmps154;go_wp2_with (first|(go_at_call 168;refine(dt _ _ _ _ _ _ _).mono ?_;rintro e w' ⟨rfl,rfl⟩;rw[a.out])|(go_at_call 64;refine(ip _ _ m).mono ?_;rintro e w' ⟨rfl,rfl⟩;rw[f.out]))
   go_ret
   exact⟨rfl,by go_grown⟩
  ·go_enter Tryz.func154,Tryz.ntmps154;go_wp2_with (first|(go_at_call 168;refine(dt _ _ _ _ _ _ _).mono ?_;rintro e w' ⟨rfl,rfl⟩;rw[a.out])|(go_at_call 64;refine(ip _ _ m).mono ?_;rintro e w' ⟨rfl,rfl⟩;rw[f.out]))
   go_ret
   exact⟨rfl,by go_grown⟩
 rw[if_neg c];by_cases g:K=3
 ·subst g;rw[if_pos rfl];clear a f b c;cases i
  ·go_enter Tryz.func154,Tryz.ntmps154;go_wp2_with (go_at_call 168;refine(dt _ _ _ _ _ _ _).mono ?_;rintro e w' ⟨rfl,rfl⟩;rw[d.out])
   go_ret
   exact⟨rfl,by go_grown⟩
  ·go_enter Tryz.func154,Tryz.ntmps154;go_wp2_with (first|(go_at_call 168;refine(dt _ _ _ _ _ _ _).mono ?_;rintro e w' ⟨rfl,rfl⟩;rw[d.out])|(go_at_call 167;refine(pP _ _ _ _ _ _ _ _ _ _ _ _ _ _ _ _).mono ?_;rintro e w' ⟨rfl,rfl⟩;rw[j.out]))
   go_ret
   exact⟨rfl,by go_grown⟩
 rw[if_neg g];by_cases k:K=4
 ·subst k;rw[if_pos rfl];clear f b c g;cases h
  ·go_enter Tryz.func154,Tryz.ntmps154;go_wp2_with (go_at_call 168;refine(dt _ _ _ _ _ _ _).mono ?_;rintro e w' ⟨rfl,rfl⟩;rw[a.out])
   go_ret
   exact⟨rfl,by go_grown⟩
  cases i
  ·go_enter Tryz.func154,Tryz.ntmps154;go_wp2_with (go_at_call 168;refine(dt _ _ _ _ _ _ _).mono ?_;rintro e w' ⟨rfl,rfl⟩;first|rw[a.out]|rw[d.out])
   go_ret
   exact⟨rfl,by go_grown⟩
  ·go_enter Tryz.func154,Tryz.ntmps154;go_wp2_with (first|(go_at_call 168;refine(dt _ _ _ _ _ _ _).mono ?_;rintro e w' ⟨rfl,rfl⟩;first|rw[a.out]|rw[d.out])|(go_at_call 167;refine(pP _ _ _ _ _ _ _ _ _ _ _ _ _ _ _ _).mono ?_;rintro e w' ⟨rfl,rfl⟩;rw[j.out]))
   go_ret
   exact⟨rfl,by go_grown⟩
 rw[if_neg k];have B:(K==1)=false:=by simpa using b
 have C:(K==2)=false:=by simpa using c
 have D:(K==3)=false:=by simpa using g
 have E:(K==4)=false:=by simpa using k
 clear b c g k;go_enter Tryz.func154,Tryz.ntmps154;go_wp2_with fail
 go_ret
 exact⟨rfl,by go_grown⟩
theorem Fz(n:Nat)(a:Ac (n+1))(w:World)(b:a.2.2.1.size<=maxLen):ak 154 #[.agg (fT (n+1) a).toArray] w λe w'=>e=.returned (.bool (nh (n+1) a))/\ai w w':=by
 unfold maxLen at b;exact Cx a.1 _ _ _ _ _ _ _ _ _ _ _ _ _ _ w (by omega) _ _ _ _ rfl rfl rfl rfl
def Mi(n:Nat)(w:World)(b o:Nat)(x:Ac (n+1)):Prop:=
 w.cell? ⟨b,o,none⟩=some (ab x.1)/\
 (w.cell? ⟨b,o+1,none⟩=some (ab x.2.1.1.1.1)/\w.cell? ⟨b,o+2,none⟩=some (ab x.2.1.1.1.2.1)/\w.cell? ⟨b,o+3,none⟩=some (ae x.2.1.1.1.2.2)/\w.cell? ⟨b,o+4,none⟩=some (.slice x.2.1.1.2.1.1 x.2.1.1.2.2.length x.2.1.1.2.1.2))/\
 (w.cell? ⟨b,o+5,none⟩=some (ab x.2.1.2.1.1)/\w.cell? ⟨b,o+6,none⟩=some (ab x.2.1.2.1.2.1)/\w.cell? ⟨b,o+7,none⟩=some (ae x.2.1.2.1.2.2)/\w.cell? ⟨b,o+8,none⟩=some (.slice x.2.1.2.2.1.1 x.2.1.2.2.2.length x.2.1.2.2.1.2))/\
 w.cell? ⟨b,o+9,none⟩=some (ae x.2.2.1)/\w.cell? ⟨b,o+10,none⟩=some (ab x.2.2.2)
def Mn(n:Nat)(w:World)(b o:Nat)(x:Cl (n+1)):Prop:=
 (w.cell? ⟨b,o,none⟩=some (ab x.1.1.1.1)/\w.cell? ⟨b,o+1,none⟩=some (ab x.1.1.1.2.1)/\w.cell? ⟨b,o+2,none⟩=some (ae x.1.1.1.2.2)/\w.cell? ⟨b,o+3,none⟩=some (.slice x.1.1.2.1.1 x.1.1.2.2.length x.1.1.2.1.2))/\
 (w.cell? ⟨b,o+4,none⟩=some (ab x.1.2.1.1.1)/\w.cell? ⟨b,o+5,none⟩=some (ab x.1.2.1.1.2.1)/\w.cell? ⟨b,o+6,none⟩=some (ae x.1.2.1.1.2.2)/\w.cell? ⟨b,o+7,none⟩=some (.slice x.1.2.1.2.1.1 x.1.2.1.2.2.length x.1.2.1.2.1.2))/\
 w.cell? ⟨b,o+8,none⟩=some (.slice x.2.1.1 x.2.2.length x.2.1.2)/\
 (w.cell? ⟨b,o+9,none⟩=some (ab x.1.2.2.1.1)/\w.cell? ⟨b,o+10,none⟩=some (ab x.1.2.2.1.2.1)/\w.cell? ⟨b,o+11,none⟩=some (ae x.1.2.2.1.2.2)/\w.cell? ⟨b,o+12,none⟩=some (.slice x.1.2.2.2.1.1 x.1.2.2.2.2.length x.1.2.2.2.1.2))
theorem pr.ac{n B:Nat}{w:World}{e:Ac (n+1)->Prop}{a:Option Addr}{p:List (Ac (n+1))}(d:pr B w 11 (fT (n+1)) e a p)(k:Nat)(x:Ac (n+1))(f:p[k]?=some x):∃b o,a=some ⟨b,o,none⟩/\b<B/\Mi n w b (o+k*11) x/\e x:=by
 rcases d with d|⟨b,o,g,i,d⟩
 ·subst d;simp at f
 ·obtain⟨c,h⟩:=d k x f;exact⟨b,o,g,i,⟨c 0 _ rfl,⟨c 1 _ rfl,c 2 _ rfl,c 3 _ rfl,c 4 _ rfl⟩,⟨c 5 _ rfl,c 6 _ rfl,c 7 _ rfl,c 8 _ rfl⟩,c 9 _ rfl,c 10 _ rfl⟩,h⟩
theorem pr.cl{n B:Nat}{w:World}{e:Cl (n+1)->Prop}{a:Option Addr}{p:List (Cl (n+1))}(d:pr B w 13 (eO (n+1)) e a p)(k:Nat)(x:Cl (n+1))(f:p[k]?=some x):∃b o,a=some ⟨b,o,none⟩/\b<B/\Mn n w b (o+k*13) x/\e x:=by
 rcases d with d|⟨b,o,g,i,d⟩
 ·subst d;simp at f
 ·obtain⟨c,h⟩:=d k x f;exact⟨b,o,g,i,⟨⟨c 0 _ rfl,c 1 _ rfl,c 2 _ rfl,c 3 _ rfl⟩,⟨c 4 _ rfl,c 5 _ rfl,c 6 _ rfl,c 7 _ rfl⟩,c 8 _ rfl,c 9 _ rfl,c 10 _ rfl,c 11 _ rfl,c 12 _ rfl⟩,h⟩
theorem pr.bh{n B:Nat}{w:World}{d:Bh (n+1)->Prop}{a:Option Addr}{p:List (Bh (n+1))}(c:pr B w 2 (oR (n+1)) d a p)(k:Nat)(x:Bh (n+1))(f:p[k]?=some x):∃b o,a=some ⟨b,o,none⟩/\b<B/\(w.cell? ⟨b,o+k*2,none⟩=some (ae x.1)/\w.cell? ⟨b,o+k*2+1,none⟩=some (.slice x.2.1.1 x.2.2.length x.2.1.2))/\d x:=by
 rcases c with c|⟨b,o,g,i,c⟩
 ·subst c;simp at f
 ·obtain⟨e,h⟩:=c k x f;exact⟨b,o,g,i,⟨e 0 _ rfl,e 1 _ rfl⟩,h⟩
theorem jO{b:Type}{c:Nat->World->b->Prop}{d:(Nat->Prop)->b->Prop}(g:jv c d){k:Nat}{f:b->List Value}{a:Option Addr}{B:Nat}{w w':World}(h:Below B w w'){l:List b}(e:pr B w k f (c B w) a l):pr B w' k f (c B w') a l:=(cu g k f a).below h e
theorem zo(n:Nat)(p:List (Ac (n+1)))(len:Nat)(r:Hid (p.length=len))(a:Option Addr)(pc B:Nat)(w:World)(u:Hid (pr B w 11 (fT (n+1)) (ic (n+1) B w) a p))(C:len<=9223372036854775807)(s:B<=w.heap.size):ak 123 #[.slice a len pc] w λe w'=>e=.returned (.bool (decide ((len:Int)<=8) && p.all (nh (n+1))))/\ai w w':=by
 by_cases x:(8:Int)<len
 ·have f:decide ((len:Int)<=8)=false:=by simp;omega
  rw[f];go_enter Tryz.func123,Tryz.ntmps123;go_wp2_with fail
  go_ret
  exact⟨rfl,am _ _⟩
 have f:decide ((len:Int)<=8)=true:=by simp;omega
 rw[f,dZ];clear f;go_enter Tryz.func123,Tryz.ntmps123;go_wp2_with fail;go_loopw [10] (λj wr=>∃k:Nat,k<=len/\j=ab k/\ai w wr/\Hid ((p.drop k).all (nh (n+1))=p.all (nh (n+1)))) (λj _=>len-(intOf j).toNat)
 case atStart=>exact⟨0,by omega,rfl,am _ _,rfl⟩
 case round=>
  obtain⟨k,y,rfl,d,h⟩:=hrel;by_cases t:k<len
  ·obtain⟨b,i⟩:∃b,p[k]?=some b:=⟨p[k]'(by rw[r.out];exact t),aE _⟩;have l:=ao (qj (nh (n+1)) p k b i);obtain⟨E,po,rfl,D,⟨F,⟨G,I,J,K⟩,⟨L,M,N,O⟩,P,H⟩,q⟩:=(jO (fu (n+1)) (d.mono s) u.out).ac k b i;have g:=λc=>ao (Fz n b c q.2.2.2.1);replace g:Hid (∀c,ak 154 #[.agg #[ab b.1,ab b.2.1.1.1.1,ab b.2.1.1.1.2.1,ae b.2.1.1.1.2.2,.slice b.2.1.1.2.1.1 b.2.1.1.2.2.length b.2.1.1.2.1.2,ab b.2.1.2.1.1,ab b.2.1.2.1.2.1,ae b.2.1.2.1.2.2,.slice b.2.1.2.2.1.1 b.2.1.2.2.2.length b.2.1.2.2.1.2,ae b.2.2.1,ab b.2.2.2]] c λe w'=>e=.returned (.bool (nh (n+1) b))/\ai c w'):=λc=>(g c).out;clear q i;generalize nh (n+1) b=v at*;have z:(0:Int)<=(k:Int):=by omega
   have A:(k:Int)<(len:Int):=by omega
   go_wp2_with fail;refine(g.out _).mono ?_;rintro e c ⟨rfl,m⟩;have o:ai w c:=(d.trans (((am _ _).alloc (aj _) _).mono d.size)).trans (m.mono (by have:=d.size;simp;omega));clear m;cases v with
   | true=>
    go_wp2_with fail;go_roundw
    case rel=>exact⟨k+1,by omega,by go_num,o,by rw[<-h.out,l.out];rfl⟩
    case measure=>simp[intOf];omega
   | false=>
    go_wp2_with fail
    go_ret
    exact⟨bK (by rw[<-h.out,l.out];rfl),o⟩
  ·go_wp2_with fail
   go_ret
   refine⟨bK ?_,d⟩;rw[<-h.out,gd (by rw[r.out];omega)];rfl
theorem tL(n:Nat)(p:List (Cl (n+1)))(len:Nat)(s:Hid (p.length=len))(a:Option Addr)(pc B:Nat)(w:World)(y:Hid (pr B w 13 (eO (n+1)) (gL (n+1) B w) a p))(G:len<=9223372036854775807)(m:B<=w.heap.size):ak 86 #[.slice a len pc] w λe w'=>e=.returned (.bool (decide (1<=(len:Int)) && decide ((len:Int)<=6) && p.all (sO (n+1))))/\ai w w':=by
 by_cases A:(len:Int)<1
 ·have v:decide (1<=(len:Int))=false:=by simp;omega
  rw[v];go_enter Tryz.func86,Tryz.ntmps86;go_wp2_with fail
  go_ret
  exact⟨rfl,am _ _⟩
 by_cases C:(6:Int)<len
 ·have f:decide ((len:Int)<=6)=false:=by simp;omega
  rw[f];go_enter Tryz.func86,Tryz.ntmps86;go_wp2_with fail
  go_ret
  exact⟨bK (by simp),am _ _⟩
 have f:(decide (1<=(len:Int)) && decide ((len:Int)<=6))=true:=by simp;omega
 rw[f,dZ];clear f;go_enter Tryz.func86,Tryz.ntmps86;go_wp2_with fail;go_loopw [15] (λj wr=>∃k:Nat,k<=len/\j=ab k/\ai w wr/\Hid ((p.drop k).all (sO (n+1))=p.all (sO (n+1)))) (λj _=>len-(intOf j).toNat)
 case atStart=>exact⟨0,by omega,rfl,am _ _,rfl⟩
 case round=>
  obtain⟨k,D,rfl,d,g⟩:=hrel;by_cases x:k<len
  ·obtain⟨b,i⟩:∃b,p[k]?=some b:=⟨p[k]'(by rw[s.out];exact x),aE _⟩;have l:=ao (qj (sO (n+1)) p k b i);obtain⟨I,po,rfl,H,⟨⟨J,K,O,P⟩,⟨Q,R,S,T⟩,U,V,L,M,N⟩,h⟩:=(jO (dU (n+1)) (d.mono m) y.out).cl k b i;have o:B<=wr.heap.size:=ax m d.size
   have u:Hid (∀c,ai wr c->ak 123 #[.slice b.2.1.1 b.2.2.length b.2.1.2] c λe w'=>e=.returned (.bool (sO (n+1) b))/\ai c w'):=
    λc t=>zo n b.2.2 b.2.2.length rfl b.2.1.1 b.2.1.2 B c (jO (fu (n+1)) (t.mono o) h.2.2) (by have:=h.2.1;unfold maxLen at this;omega) (ax o t.size)
   clear h i;generalize sO (n+1) b=z at*;have E:(0:Int)<=(k:Int):=by omega
   have F:(k:Int)<(len:Int):=by omega
   go_wp2_with fail;refine(u.out _ ((am _ _).alloc (aj _) _)).mono ?_;rintro e c ⟨rfl,q⟩;have r:ai w c:=(d.trans (((am _ _).alloc (aj _) _).mono d.size)).trans (q.mono (by have:=d.size;simp;omega));clear q;cases z with
   | true=>
    go_wp2_with fail;go_roundw
    case rel=>exact⟨k+1,by omega,by go_num,r,by rw[<-g.out,l.out];rfl⟩
    case measure=>simp[intOf];omega
   | false=>
    go_wp2_with fail
    go_ret
    exact⟨bK (by rw[<-g.out,l.out];rfl),r⟩
  ·go_wp2_with fail
   go_ret
   refine⟨bK ?_,d⟩;rw[<-g.out,gd (by rw[s.out];omega)];rfl
theorem MH(n:Nat)(x:Bh n):vt n x=(dE x.1 && (decide (1<=(x.2.2.length:Int)) && decide ((x.2.2.length:Int)<=6) && x.2.2.all (sO n))):=by
 simp only[vt,Bool.and_assoc]
theorem oZ(n:Nat)(p:List (Bh (n+1)))(len:Nat)(l:Hid (p.length=len))(a:Option Addr)(pc B:Nat)(w:World)(D:Hid (gM (n+1) B w a p))(M:len<=9223372036854775807)(s:B<=w.heap.size):ak 58 #[.slice a len pc] w λe w'=>e=.returned (.bool (jP (n+1) p))/\ai w w':=by
 have r:Hid (jP (n+1) p=(decide (1<=(len:Int)) && decide ((len:Int)<=7) && p.all (vt (n+1)))):=by
  show jP (n+1) p=_;rw[<-l.out];rfl
 rw[r.out];by_cases H:(len:Int)<1
 ·have A:decide (1<=(len:Int))=false:=by simp;omega
  rw[A];go_enter Tryz.func58,Tryz.ntmps58;go_wp2_with fail
  go_ret
  exact⟨rfl,am _ _⟩
 by_cases I:(7:Int)<len
 ·have f:decide ((len:Int)<=7)=false:=by simp;omega
  rw[f];go_enter Tryz.func58,Tryz.ntmps58;go_wp2_with fail
  go_ret
  exact⟨bK (by simp),am _ _⟩
 have f:(decide (1<=(len:Int)) && decide ((len:Int)<=7))=true:=by simp;omega
 rw[f,dZ];clear f r;go_enter Tryz.func58,Tryz.ntmps58;go_wp2_with fail;go_loopw [15] (λo wr=>∃k:Nat,k<=len/\o=ab k/\ai w wr/\Hid ((p.drop k).all (vt (n+1))=p.all (vt (n+1)))) (λo _=>len-(intOf o).toNat)
 case atStart=>exact⟨0,by omega,rfl,am _ _,rfl⟩
 case round=>
  obtain⟨k,J,rfl,d,g⟩:=hrel;by_cases C:k<len
  ·obtain⟨b,m⟩:∃b,p[k]?=some b:=⟨p[k]'(by rw[l.out];exact C),aE _⟩;have j:=ao (qj (vt (n+1)) p k b m);obtain⟨O,po,rfl,N,⟨Q,R⟩,h⟩:=(gM.below (d.mono s) D.out).bh k b m;have t:B<=wr.heap.size:=ax s d.size;have E:b.1.size<=9223372036854775807:=by have:=h.1;unfold maxLen at this;omega
   have z:Hid (∀c,ai wr c->ak 86 #[.slice b.2.1.1 b.2.2.length b.2.1.2] c λe w'=>e=.returned (.bool (decide (1<=(b.2.2.length:Int)) && decide ((b.2.2.length:Int)<=6) && b.2.2.all (sO (n+1))))/\ai c w'):=
    λc y=>tL n b.2.2 b.2.2.length rfl b.2.1.1 b.2.1.2 B c (jO (dU (n+1)) (y.mono t) h.2.2) (by have:=h.2.1;unfold maxLen at this;omega) (ax t y.size)
   have i:=ao (MH (n+1) b);clear h m;generalize (decide (1<=(b.2.2.length:Int)) && decide ((b.2.2.length:Int)<=6) && b.2.2.all (sO (n+1)))=F at*;have K:(0:Int)<=(k:Int):=by omega
   have L:(k:Int)<(len:Int):=by omega
   have q:=λc=>ao (ip b.1 c E);generalize dE b.1=G at*;generalize vt (n+1) b=P at*;have u:ai w (wr.alloc (.cells #[ae b.1,.slice b.2.1.1 b.2.2.length b.2.1.2] 138)):=d.trans (((am _ _).alloc (aj _) _).mono d.size);cases G with
   | false=>
    go_wp2_with (go_at_call 64;refine(q _).out.mono ?_;rintro e w' ⟨rfl,rfl⟩)
    go_ret
    exact⟨bK (by rw[<-g.out,j.out,i.out];rfl),u⟩
   | true=>
    go_wp2_with (first|(go_at_call 64;refine(q _).out.mono ?_;rintro e w' ⟨rfl,rfl⟩)|(go_at_call 86;refine(z.out _ ((am _ _).alloc (aj _) _)).mono ?_;rintro e c ⟨rfl,v⟩;have x:ai w c:=u.trans (v.mono (by have:=d.size;simp;omega));clear v;cases F))
    ·go_ret
     exact⟨bK (by rw[<-g.out,j.out,i.out];rfl),x⟩
    ·go_roundw
     case rel=>exact⟨k+1,by omega,by go_num,x,by rw[<-g.out,j.out,i.out];rfl⟩
     case measure=>simp[intOf];omega
  ·go_wp2_with fail
   go_ret
   refine⟨bK ?_,d⟩;rw[<-g.out,gd (by rw[l.out];omega)];rfl
theorem il(s:ByteArray)(w:World):ak 87 #[ae s] w λe w'=>e=.returned (.agg #[ab 2,ab 0,ae s,.slice none 0 0])/\w'=w.alloc (.cells #[ab 2,ab 0,ae s,.slice none 0 0] 30):=by
 go_enter Tryz.func87,Tryz.ntmps87;go_wp2_with fail;exact ar (v:=.agg #[ab 2,ab 0,ae s,.slice none 0 0]) (by simp[results,Tryz.results87,go_sem]) rfl ⟨rfl,rfl⟩
theorem fy(a:Option Addr)(l c:Nat)(w:World):ak 89 #[.slice a l c] w λe w'=>e=.returned (.agg #[ab 4,ab 0,ae ⟨#[]⟩,.slice a l c])/\w'=w.alloc (.cells #[ab 4,ab 0,ae ⟨#[]⟩,.slice a l c] 30):=by
 go_enter Tryz.func89,Tryz.ntmps89;go_wp2_with fail;exact ar (v:=.agg #[ab 4,ab 0,ae ⟨#[]⟩,.slice a l c]) (by simp[results,Tryz.results89,go_sem]) rfl ⟨rfl,rfl⟩
def ij(B N:Nat)(c:Tm N)(w:World)(e:Ending)(w':World):Prop:=
 ∃a:Tm N,e=.returned (df N a)/\Hid (ai w w'/\In w'.heap.size w' N a/\bZ (λb=>b<B\/w.heap.size<=b) N a/\aw N a N c=true)
abbrev dP(n B base:Nat)(xs:List (Tm n))(v:Value)(w0 wr:World):Prop:=eU (λB w x=>In B w n x) (λP x=>bZ P n x) (gX n) 4 30 B base xs v w0 wr
theorem oy(n:Nat)(x:Tm n):(gX n x).length=4:=rfl
theorem gP(s:ByteArray)(N:Nat)(a:s.size<=maxLen)(B:Nat)(w:World):In B w (N+1) (aW s N):=⟨⟨by simp[aW,dk],by simp[aW,dk],a,by simp[aW],by simp[aW]⟩,ag rfl⟩
theorem As(k a:Int)(N:Nat)(b:dk k)(c:dk a)(B:Nat)(w:World):In B w (N+1) (bJ k a N):=⟨⟨b,c,aF _,by simp[bJ],by simp[bJ]⟩,ag rfl⟩
theorem nT(s:ByteArray)(N:Nat)(P:Nat->Prop):bZ P (N+1) (aW s N):=ag rfl
theorem Ea{n:Nat}{w:World}{b o:Nat}{x:Tm n}{B:Nat}{w0:World}(d:In B w0 n x)(a:∀(j:Nat)(c:Value),(gX n x)[j]?=some c->w.cell? ⟨b,o+j,none⟩=some c):dr w b o n x:=by
 cases n with
 | zero=>exact d.elim
 | succ n=>exact⟨a 0 _ rfl,a 1 _ rfl,a 2 _ rfl,a 3 _ rfl⟩
theorem dP.tells{B base N:Nat}{xs ys:List (Tm N)}{v:Value}{w w0 wr w':World}(p:dP N B base xs v w0 wr)(x:w.heap.size<=base)(s:ay (λa b=>aw N a N b) xs ys=true)(u:∀b,b<B\/base<=b->b<wr.heap.size->w'.heap[b]?=wr.heap[b]?)(t:wr.heap.size<=w'.heap.size)(g:ai w w'):∃a c,v=.slice a xs.length c/\ij B (N+1) (cU N ys) w (.returned (.agg #[ab 4,ab 0,ae ⟨#[]⟩,.slice a xs.length c])) w':=by
 have j:=dM N;obtain⟨a,c,f,m,n,e⟩:=p.lay j (oy N);refine⟨a,c,f,((4,0,.empty),(a,c),xs),rfl,g,⟨⟨by simp[dk],by simp[dk],aF _,m.1,m.2⟩,?_⟩,?_,cX rfl s⟩
 ·have q:=(cu j 4 (gX N) a).2.1 _ _ _ _ e n;have r:=(cu j 4 (gX N) a).2.2.1 _ _ wr w' _ (λb l=>u b l.1 l.2) q n;have d:=(cu j 4 (gX N) a).2.2.2.1 _ _ _ _ t r;rcases d with d|⟨b,o,f,g,d⟩
  ·exact ag d
  ·exact ah ⟨b,o,f,g,λk i h=>⟨Ea (d k i h).2 (d k i h).1,(d k i h).2⟩⟩
 ·rcases e with e|⟨b,o,f,g,e⟩
  ·exact ag e
  ·exact ah ⟨b,o,f,by omega,λk i h=>(e i (aG h)).mono λb g=>by omega⟩
theorem ov{B N:Nat}(xs:List (Tm N)){w w1 w':World}{cs:Array Value}{g L:Nat}(a:ai w w1)(r:g=w1.heap.size)(p:L=xs.length)(e:Below (w1.alloc (.cells cs 30)).heap.size (w1.alloc (.cells cs 30)) w')(q:cs.toList=xs.flatMap (gX N))(u:xs.length<=8)(i:B<=w.heap.size)(f:∀y∈xs,In B w N y):ij B (N+1) (cU N xs) w (.returned (.agg #[ab 4,ab 0,ae ⟨#[]⟩,.slice (some ⟨g,0,none⟩) L L])) w':=by
 have o:=eU.lit (T:=30) (k:=4) (B:=B) (base:=w1.heap.size) (dM N) xs (w0:=w1) q (oy N) (by unfold maxLen;omega) (aj _) (am _ _) (λy d=>⟨((f y d).below (a.mono i)).mono (ax i a.size),(od (f y d)).mono λb h=>ag h⟩);have j:ai w (w1.alloc (.cells cs 30)):=a.trans (((am _ _).alloc (aj _) _).mono a.size);obtain⟨s,c,l,k⟩:=dP.tells o a.size (iA _ _ λy d=>kU (f y d)) (λb _ h=>e.block b h) e.size (j.trans (e.mono j.size));injection l with m t n;subst m n p r;exact k
theorem gG{w:World}{a b c:Obj}:ai w (((w.alloc a).alloc b).alloc c)/\w.heap.size+1+1+1=(((w.alloc a).alloc b).alloc c).heap.size:=
 ⟨(((am _ _).alloc (aj _) _).alloc (by simp) _).alloc (by simp;omega) _,by simp⟩
theorem sh{w:World}{a b c d:Obj}:ai w ((((w.alloc a).alloc b).alloc c).alloc d)/\w.heap.size+1+1+1+1=((((w.alloc a).alloc b).alloc c).alloc d).heap.size:=
 ⟨((((am _ _).alloc (aj _) _).alloc (by simp) _).alloc (by simp;omega) _).alloc (by simp;omega) _,by simp⟩
theorem uK{w:World}{o:Obj}:ai w (w.alloc o).drew:=((am _ _).alloc (aj _) _).drew
theorem aK{w:World}{o:Obj}:ai w (w.alloc o):=(am _ _).alloc (aj _) _
theorem mS(s:ByteArray)(a:s.size<=8):s.size<=maxLen:=by unfold maxLen;omega
theorem yM(n:Nat)(t x:Tm (n+1))(s:ByteArray)(v:Int)(B:Nat)(w:World)(b:In B w (n+1) t)(c:In B w (n+1) x)(h:B<=w.heap.size):ak 155 #[.agg #[ab 1,ab t.1.1,ab t.1.2.1,ae t.1.2.2,.slice t.2.1.1 t.2.2.length t.2.1.2,ab x.1.1,ab x.1.2.1,ae x.1.2.2,.slice x.2.1.1 x.2.2.length x.2.1.2,ae s,ab v]] w (ij B (n+2) (cU (n+1) [aW lU n,t,x]) w):=by
 have f:Hid (∀e∈[aW lU n,t,x],In B w (n+1) e):=λe d=>by
  simp only[cB,gf,gm]at d;rcases d with rfl|rfl|rfl
  ·exact gP _ _ (mS _ (by decide)) _ _
  ·exact b
  ·exact c
 clear b c;go_enter Tryz.func155,Tryz.ntmps155;go_wp2_with fail
 go_region_held3 (λa=>(a.cell? ⟨w.heap.size,1,none⟩=some (ab t.1.1)/\a.cell? ⟨w.heap.size,2,none⟩=some (ab t.1.2.1)/\a.cell? ⟨w.heap.size,3,none⟩=some (ae t.1.2.2)/\a.cell? ⟨w.heap.size,4,none⟩=some (.slice t.2.1.1 t.2.2.length t.2.1.2))/\
     (a.cell? ⟨w.heap.size,5,none⟩=some (ab x.1.1)/\a.cell? ⟨w.heap.size,6,none⟩=some (ab x.1.2.1)/\a.cell? ⟨w.heap.size,7,none⟩=some (ae x.1.2.2)/\a.cell? ⟨w.heap.size,8,none⟩=some (.slice x.2.1.1 x.2.2.length x.2.1.2))) (first|(go_keep;done)|(simp[go_sem];done))
  ((first|(go_at_call 87;refine(il _ _).mono ?_;rintro g i ⟨rfl,rfl⟩)|(go_at_call 89;refine(fy _ _ _ _).mono ?_;rintro g i ⟨rfl,rfl⟩)))
 go_wp2_with fail;exact ar (v:=.agg #[ab 4,ab 0,ae ⟨#[]⟩,.slice (some ⟨w.heap.size+1+1+1,0,none⟩) 3 3]) (by simp[results,Tryz.results155,go_sem]) rfl (ov [aW lU n,t,x] gG.1 gG.2 rfl uK rfl (by simp) h f.out)
theorem yK(n:Nat)(t x:Tm (n+1))(s:ByteArray)(v:Int)(B:Nat)(w:World)(b:In B w (n+1) t)(g:B<=w.heap.size):ak 155 #[.agg #[ab 3,ab t.1.1,ab t.1.2.1,ae t.1.2.2,.slice t.2.1.1 t.2.2.length t.2.1.2,ab x.1.1,ab x.1.2.1,ae x.1.2.2,.slice x.2.1.1 x.2.2.length x.2.1.2,ae s,ab v]] w (ij B (n+2) (cU (n+1) [aW lT n,t]) w):=by
 have e:Hid (∀d∈[aW lT n,t],In B w (n+1) d):=λd c=>by
  simp only[cB,gf,gm]at c;rcases c with rfl|rfl
  ·exact gP _ _ (mS _ (by decide)) _ _
  ·exact b
 clear b;go_enter Tryz.func155,Tryz.ntmps155;go_wp2_with fail
 go_region_held3 (λa=>a.cell? ⟨w.heap.size,1,none⟩=some (ab t.1.1)/\a.cell? ⟨w.heap.size,2,none⟩=some (ab t.1.2.1)/\a.cell? ⟨w.heap.size,3,none⟩=some (ae t.1.2.2)/\a.cell? ⟨w.heap.size,4,none⟩=some (.slice t.2.1.1 t.2.2.length t.2.1.2)) (first|(go_keep;done)|(simp[go_sem];done))
  ((first|(go_at_call 87;refine(il _ _).mono ?_;rintro f h ⟨rfl,rfl⟩)|(go_at_call 89;refine(fy _ _ _ _).mono ?_;rintro f h ⟨rfl,rfl⟩)))
 go_wp2_with fail;exact ar (v:=.agg #[ab 4,ab 0,ae ⟨#[]⟩,.slice (some ⟨w.heap.size+1+1+1,0,none⟩) 2 2]) (by simp[results,Tryz.results155,go_sem]) rfl (ov [aW lT n,t] gG.1 gG.2 rfl uK rfl (by simp) g e.out)
theorem yN(n:Nat)(K:Int)(g:(K==1)=false)(h:(K==2)=false)(i:(K==3)=false)(t x:Tm (n+1))(s:ByteArray)(v:Int)(B:Nat)(w:World)(e:B<=w.heap.size):ak 155 #[.agg #[ab K,ab t.1.1,ab t.1.2.1,ae t.1.2.2,.slice t.2.1.1 t.2.2.length t.2.1.2,ab x.1.1,ab x.1.2.1,ae x.1.2.2,.slice x.2.1.1 x.2.2.length x.2.1.2,ae s,ab v]] w (ij B (n+2) (cU (n+1) [aW ld n]) w):=by
 have c:Hid (∀b∈[aW ld n],In B w (n+1) b):=λb a=>by
  simp only[cB,gf,gm]at a;subst a;exact gP _ _ (mS _ (by decide)) _ _
 go_enter Tryz.func155,Tryz.ntmps155;go_wp2_with (first|(go_at_call 87;refine(il _ _).mono ?_;rintro d f ⟨rfl,rfl⟩)|(go_at_call 89;refine(fy _ _ _ _).mono ?_;rintro d f ⟨rfl,rfl⟩));exact ar (v:=.agg #[ab 4,ab 0,ae ⟨#[]⟩,.slice (some ⟨w.heap.size+1+1+1,0,none⟩) 1 1]) (by simp[results,Tryz.results155,go_sem]) rfl (ov [aW ld n] gG.1 gG.2 rfl aK rfl (by simp) e c.out)
theorem vI(n:Nat)(t x:Tm (n+1))(s:ByteArray)(v:Int)(c:dk v)(b:s.size<=maxLen)(B:Nat)(w:World)(d:In B w (n+1) x)(i:B<=w.heap.size):ak 155 #[.agg #[ab 2,ab t.1.1,ab t.1.2.1,ae t.1.2.2,.slice t.2.1.1 t.2.2.length t.2.1.2,ab x.1.1,ab x.1.2.1,ae x.1.2.2,.slice x.2.1.1 x.2.2.length x.2.1.2,ae s,ab v]] w (ij B (n+2) (cU (n+1) [aW iF n,aW s n,x,bJ 5 v n]) w):=by
 have g:Hid (∀f∈[aW iF n,aW s n,x,bJ 5 v n],In B w (n+1) f):=λf e=>by
  simp only[cB,gf,gm]at e;rcases e with rfl|rfl|rfl|rfl
  ·exact gP _ _ (mS _ (by decide)) _ _
  ·exact gP _ _ b _ _
  ·exact d
  ·exact As _ _ _ (by simp[dk]) c _ _
 clear d b c;go_enter Tryz.func155,Tryz.ntmps155;go_wp2_with fail
 go_region_held3 (λa=>(a.cell? ⟨w.heap.size,9,none⟩=some (ae s)/\a.cell? ⟨w.heap.size,10,none⟩=some (ab v))/\
     (a.cell? ⟨w.heap.size,5,none⟩=some (ab x.1.1)/\a.cell? ⟨w.heap.size,6,none⟩=some (ab x.1.2.1)/\a.cell? ⟨w.heap.size,7,none⟩=some (ae x.1.2.2)/\a.cell? ⟨w.heap.size,8,none⟩=some (.slice x.2.1.1 x.2.2.length x.2.1.2))) (first|(go_keep;done)|(simp[go_sem];done))
  ((first|(go_at_call 87;refine(il _ _).mono ?_;rintro h j ⟨rfl,rfl⟩)|(go_at_call 89;refine(fy _ _ _ _).mono ?_;rintro h j ⟨rfl,rfl⟩)))
 all_goals go_wp2_with fail
 all_goals exact ar (v:=.agg #[ab 4,ab 0,ae ⟨#[]⟩,.slice (some ⟨w.heap.size+1+1+1+1,0,none⟩) 4 4]) (by simp[results,Tryz.results155,go_sem]) rfl (ov [aW iF n,aW s n,x,bJ 5 v n] sh.1 sh.2 rfl uK rfl (by simp) i g.out)
theorem Br(n:Nat)(a:Ac (n+1))(B:Nat)(w:World)(o:ic (n+1) B w a)(c:B<=w.heap.size):ak 155 #[.agg (fT (n+1) a).toArray] w (ij B (n+2) (bY n a) w):=by
 obtain⟨b,⟨t,f⟩,d,e⟩:=a;obtain⟨p,j,k,l,m⟩:=o;unfold bY;by_cases g:b=1
 ·subst g;exact yM n t f d e B w j k c
 by_cases h:b=2
 ·subst h;exact vI n t f d e m l B w k c
 by_cases i:b=3
 ·subst i;exact yK n t f d e B w j c
 ·simp only[g,h,i,if_false];exact yN n b (by simpa using g) (by simpa using h) (by simpa using i) t f d e B w c
end Go.Proofs.YtckamaoibonjcaaGreat
