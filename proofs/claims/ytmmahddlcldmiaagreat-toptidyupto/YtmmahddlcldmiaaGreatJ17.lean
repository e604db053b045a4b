/- Proved here: plain facts and contracts. No condition but what each names. -/
import Derived.Test.YtmmahddlcldmiaaGreatJ16
namespace Go.Proofs.YtmmahddlcldmiaaGreat
open Go.RowKit Go.Maps Go.Proofs.Tryz
open Go.RowKit
set_option maxHeartbeats 4000000
set_option maxRecDepth 100000
theorem LZ(w:World)(a:Value):iF w.heap.size (w.heap.size+1) a ([],[]) (λb=>w.heap.size<=b) ((w.alloc (.map #[] 0)).alloc (.cells #[a,ae none 0 0,.map (some w.heap.size)] 206)):=by
 have e:=pB w Tryz.prog 3 (plainElem (H:=Unit) Tryz.prog 3);have es:∀o,(w.alloc o).heap.size=w.heap.size+1:=λo=>by simp
 have c:=aA (w.alloc (.map #[] 0)) (.cells #[a,ae none 0 0,.map (some w.heap.size)] 206);rw[es]at c;exact⟨ae none 0 0,w.heap.size,.map [],c,eK _ _ _ _,e.alloc _,Li,by omega,λb d=>by simp[Value.ownBlock]at d,am _⟩
def kU(R:List Wd×List Wd×cY)(len g:Nat)(tv:Value)(w w':World):Prop:=
 aj w w'/\w'.ownsRow w.heap.size 109 2 tv R.2.1.length (aY R.2.1)/\w'.ownsRow g 109 2 (ae (some ⟨g,0,none⟩) len len) len (aY R.1)/\w.heap.size<=g/\tv.ownBlock≠some g
theorem zH(R:List Wd×List Wd×cY)(c:Value)(d:Option Addr)(L f:Nat)(a:Option Addr)(len pc:Nat)(w:World)(i:c=ae d L f)(b:Hid (ak 114 #[.pointer (some ⟨w.heap.size+1,0,none⟩),ae a len pc] ((w.alloc (.map #[] 0)).alloc (.cells #[ae d L f,ae none 0 0,.map (some w.heap.size)] 206)) λe w'=>∃g tv,e=.returned (ae (some ⟨g,0,none⟩) len len)/\w'.cell? ⟨w.heap.size+1,1,none⟩=some tv/\Hid (kU R len g tv w w'))):ak 75 #[c,ae a len pc] w λe w'=>∃g tv,e=.returned (.tuple #[tv,ae (some ⟨g,0,none⟩) len len])/\Hid (kU R len g tv w w'):=by
 subst i;have j:= @run_makeMap Tryz.prog;go_enter func75,ntmps75;go_wp2_with fail;refine b.mono ?_;rintro e l ⟨g,tv,rfl,k,h⟩;clear b j;go_wp2_with fail;exact av (v:=.tuple #[tv,ae (some ⟨g,0,none⟩) len len]) (by simp[results,results75,go_sem]) rfl ⟨g,tv,rfl,h⟩
theorem BV(ws:List Wd)(nm:List ByteArray)(n:Nat)(vs:List Wd)(p:List (Tm n))(q:Nat)(d:Value)(a:Option Addr)(pc:Nat)(w:World)(k:w.ownsRow q 109 2 d ws.length (aY ws))(G:gF ws nm n vs p)(F:∀y∈p,aD ⟨n,y⟩)(H:ws.length<=100000)(B:vs.length<=100000)(I:(p.map λy=>1+sz n y).sum<=90000)(D:(p.flatMap λy=>ay n y).length<=90000)(h:eR w vs a)(E:∀b o,a=some ⟨b,o,none⟩->b<w.heap.size):ak 75 #[d,ae a vs.length pc] w λe w'=>∃g tv,e=.returned (.tuple #[tv,ae (some ⟨g,0,none⟩) vs.length vs.length])/\Hid (kU (gM (jL ws n) vs ([],[])) vs.length g tv w w'):=by
 obtain⟨l,m,r⟩:∃l m,d=ae l ws.length m:=by
  rcases k.2 with⟨e,x⟩|⟨g,c,R,e,_⟩
  ·exact⟨none,0,by rw[e,x]⟩
  ·exact⟨_,c,e⟩
 refine zH _ d l ws.length m a vs.length pc w r ?_;have f:aj w ((w.alloc (.map #[] 0)).alloc (.cells #[d,ae none 0 0,.map (some w.heap.size)] 206)):=((ao _ _).alloc (am _) _).alloc (by simp) _;have z:=LZ w d;have S:((w.alloc (.map #[] 0)).alloc (.cells #[d,ae none 0 0,.map (some w.heap.size)] 206)).heap.size=w.heap.size+2:=by simp
 rw[<-r];generalize (w.alloc (.map #[] 0)).alloc (.cells #[d,ae none 0 0,.map (some w.heap.size)] 206)=wA at*;have A:eR wA vs a:=by
  rcases h with h|⟨b,o,e,j,h⟩
  ·exact ah h
  ·exact ai ⟨b,o,e,by omega,λt u s=>⟨(aq f b _ j).trans (h t u s).1,(aq f b _ j).trans (h t u s).2⟩⟩
 refine(sY ws nm n (MA ws nm n) vs p w.heap.size (w.heap.size+1) q d ([],[]) _ a pc wA z (dT k f) (λb e C=>by have:=(k.lt b e).2;omega) (by omega) G F H B (by simpa using I) (by simpa using D) A ?_).mono ?_
 ·intro b o e C;have:=E b o e;omega
 ·rintro e w' ⟨g,rfl,v⟩;obtain⟨Q,M,i,X,N,Y,O⟩:=v;obtain⟨tv,Z,P,J,K,T,U,V,L,W⟩:=M;refine⟨g,tv,rfl,J.cells.1.2.1,⟨?_,?_,?_,?_,?_⟩,K,O,by omega,λe=>N (L g e)⟩
  ·exact i.os.trans f.os
  ·exact i.tape.trans f.tape
  ·exact i.output.trans f.output
  ·have:=i.size;omega
  ·intro b j;exact(i.block b (by omega) (by omega)).trans (f.block b j)
theorem AO{base:Nat}{c:cw}{room:Int}{ws:List Wd}{nm:List ByteArray}{M:Nat->Prop}{R:List Wd×List Wd×cY}{len g:Nat}{tv:Value}{w w1 w2:World}(n:dH base c room ws nm M w)(i:aj w w1)(r:kU R len g tv w1 w2)(z:base<=w.heap.size):l6 base c room R.2.1 nm M w (w2.setCell ⟨c.b,c.o+1,none⟩ tv):=by
 obtain⟨v,l,A,B,C⟩:=r;have s:=i.size;have j:=i.trans (v.mono s);obtain⟨D,t,u,e,x,f,h,y,p,q⟩:=n.later j;have k:=bq w2 c.b (c.o+1) tv;have m:∀b,tv.ownBlock=some b->w1.heap.size<=b:=λb a=>(l.lt b a).1;refine⟨⟨tv,t,u,e.set1 tv,dW (rJ l (by omega)) k (λb a d=>?_),f.kept k (λb a d=>?_) (λb a d=>?_),ah h.1,λb a=>ai (by have:=m b a;omega),λb a=>ah (p b a).1,λb a=>ah (q b a).1⟩,(aZ j M).trans k ?_⟩
 ·subst d;have:=m _ a;have:=h.2;omega
 ·subst d;exact nC f.1 e (by decide) a
 ·subst d;exact ua f e a
 ·rintro b _ rfl;exact h.1
theorem yS(R:List Wd×List Wd×cY)(d:cw)(n:Option Addr)(L q:Nat)(a:Option Addr)(len pc:Nat)(w:World)(j:d.b<w.heap.size)(i:w.cell? ⟨d.b,d.o+1,none⟩=some (ae n L q))(f1:w.frozen? ⟨d.b,d.o+1,none⟩=false)(k:Hid (ak 74 #[.pointer (some ⟨d.b,d.o,none⟩),ae a len pc] w λe w'=>e=.returned (.bool true)/\aj w w'))(l:Hid (∀w1,aj w w1->ak 75 #[ae n L q,ae a len pc] w1 λe w'=>∃g tv,e=.returned (.tuple #[tv,ae (some ⟨g,0,none⟩) len len])/\Hid (kU R len g tv w1 w'))):ak 44 #[.pointer (some ⟨d.b,d.o,none⟩),ae a len pc] w λe w'=>∃g tv w1 w2,e=.returned (.tuple #[ae (some ⟨g,0,none⟩) len len,ab 0])/\w'=w2.setCell ⟨d.b,d.o+1,none⟩ tv/\Hid (aj w w1/\kU R len g tv w1 w2):=by
 go_enter func44,ntmps44;go_wp2_with fail;refine k.mono ?_;rintro e w1 ⟨rfl,f⟩;have HB:=ap f;replace i:=(aq f d.b (d.o+1) j).trans i;replace f1:=(gH f d.b (d.o+1) j).trans f1;have m:d.b<w1.heap.size:=aR j f.size;clear f k;go_wp2_with fail;refine(l w1 HB).mono ?_;rintro e w2 ⟨g,tv,rfl,h⟩;obtain⟨p,r,rfl⟩:∃p r,tv=ae p R.2.1.length r:=by
  rcases h.out.2.1.2 with⟨e,s⟩|⟨g,c,t,e,_⟩
  ·exact⟨none,0,by rw[e,s]⟩
  ·exact⟨_,c,e⟩
 replace i:=(aq h.1 d.b (d.o+1) m).trans i;replace f1:=(gH h.1 d.b (d.o+1) m).trans f1;clear l;go_wp2_with fail
 go_ret2
 exact⟨g,_,w1,w2,rfl,rfl,HB,h⟩
theorem gF.mem{ws:List Wd}{nm:List ByteArray}{n:Nat}{l:List Wd}{p:List (Tm n)}(b:gF ws nm n l p){v:Wd}(e:v∈l):∃y∈p,dI ws nm n y v:=by
 obtain⟨a,c⟩:=cW e;have d:a<p.length:=by rw[<-b.1];exact(aS.1 c).1
 exact⟨p[a],jH _,b.2 a v p[a] c (aI d)⟩
def FK(g c:cY)(a b:Nat):Prop:=∀p,(p<a\/b<=p)->look c p=look g p
theorem Hb{d a C:List Wd}{b:Wd}(k:(a++b::C) <+:d):cr d a.length C.length=C:=by
 obtain⟨c,rfl⟩:=k;unfold cr;rw[show a++b::C++c=(a++ [b])++(C++c) by simp];rw[List.drop_left' (by simp),List.take_left' rfl]
theorem CG{w w1:World}{vs:List Wd}{a:Option Addr}(c:eR w vs a)(d:aj w w1):eR w1 vs a:=by
 rcases c with c|⟨b,o,i,e,c⟩
 ·exact ah c
 ·exact ai ⟨b,o,i,aR e d.size,λg h f=>⟨(aq d b _ e).trans (c g h f).1,(aq d b _ e).trans (c g h f).2⟩⟩
def EH(ws:List Wd)(nm:List ByteArray)(n:Nat)(vs:List Wd)(p:List (Tm n)):Prop:=
 gF ws nm n vs p/\(∀a∈p,aD ⟨n,a⟩)/\(∀a∈p,aL n a=true)/\(p.map λa=>1+sz n a).sum<=90000/\(p.flatMap λa=>ay n a).length<=90000/\vs.length<=1000
def jP(ws:List Wd)(n:Nat)(vs:List Wd):List Wd×List Wd×cY:=gM (jL ws n) vs ([],[])
theorem EH.all{ws:List Wd}{nm:List ByteArray}{n:Nat}{vs:List Wd}{p:List (Tm n)}(b:EH ws nm n vs p)(g:ws.length<=1000)(f:nm.length<=50000):vs.all (cN ws nm)=true/\∀v∈vs,dx v.2:=by
 have key:∀v∈vs,cN ws nm v=true/\dx v.2:=λv a=>by
  obtain⟨d,c,e⟩:=b.1.mem a;exact Cj e (b.2.1 d c) (b.2.2.1 d c) (by omega) (by omega)
 exact⟨ci.2 λv a=>(key v a).1,λv a=>(key v a).2⟩
def yw(base:Nat)(a:cw)(room:Int)(R:List Wd×List Wd×cY)(nm:List ByteArray)(M:Nat->Prop)(g:Nat)(w w':World):Prop:=
 dH base a room R.2.1 nm (λb=>(M b\/w.heap.size<=b)/\b≠g) w'/\bT M w w'/\eR w' R.1 (some ⟨g,0,none⟩)/\w.heap.size<=g/\g<w'.heap.size/\∃len,w'.ownsRow g 109 2 (ae (some ⟨g,0,none⟩) len len) len (aY R.1)
theorem yu{w:World}{g base len:Nat}{vs:List Wd}(a:w.ownsRow base 109 2 (ae (some ⟨g,0,none⟩) len len) len (aY vs)):eR w vs (some ⟨g,0,none⟩)/\g<w.heap.size:=by
 refine⟨ai ⟨g,0,rfl,(a.lt g rfl).2,λc d b=>?_⟩,(a.lt g rfl).2⟩;have:=jf a c d b;rw[cX];exact this
theorem Jg{base:Nat}{d:cw}{room:Int}{ws:List Wd}{nm:List ByteArray}{M:Nat->Prop}{R:List Wd×List Wd×cY}{len g:Nat}{tv:Value}{w w1 w2:World}(j:dH base d room ws nm M w)(h:aj w w1)(p:kU R len g tv w1 w2)(t:base<=w.heap.size):yw base d room R nm M g w (w2.setCell ⟨d.b,d.o+1,none⟩ tv):=by
 have u:=AO j h p t;obtain⟨z,q,i,F,B⟩:=p;have v:=h.size;have s:=h.trans (z.mono v);obtain⟨G,x,y,e,C,f,l,D,m,n⟩:=j.later s;have k:=bq w2 d.b (d.o+1) tv;have r:∀b,tv.ownBlock=some b->w1.heap.size<=b:=λb a=>(q.lt b a).1;have E:d.b<w.heap.size:=l.2;refine⟨⟨tv,x,y,e.set1 tv,dW (rJ q (by omega)) k (λb a c=>?_),f.kept k (λb a c=>?_) (λb a c=>?_),⟨ah l.1,by omega⟩,λb a=>⟨ai (by have:=r b a;omega),λc=>B (by rw[a,c])⟩,λb a=>⟨ah (m b a).1,by have:=(m b a).2;omega⟩,λb a=>⟨ah (n b a).1,by have:=(n b a).2;omega⟩⟩,u.2,?_,by omega,?_,?_⟩
 ·subst c;have:=r _ a;omega
 ·subst c;exact nC f.1 e (by decide) a
 ·subst c;exact ua f e a
 ·have A:=dW i k (λb a c=>by
    subst c;simp only[Value.ownBlock]at a;have:=aw a
    omega)
  exact(yu A).1
 ·have:=(yu i).2;simpa [World.setCell]using this
 ·exact⟨len,dW i k (λb a c=>by
    subst c;simp only[Value.ownBlock]at a;have:=aw a
    omega)⟩
theorem zg(n:Nat)(p:List (Tm n))(vs:List Wd)(a:Option Addr)(pc base:Nat)(f:cw)(room:Int)(ws:List Wd)(nm:List ByteArray)(M:Nat->Prop)(w:World)(j:dH base f room ws nm M w)(d:EH ws nm n vs p)(r:eR w vs a)(C:∀b o,a=some ⟨b,o,none⟩->b<w.heap.size)(z:base<=w.heap.size)(E:ws.length<=1000)(D:nm.length<=50000):ak 44 #[.pointer (some ⟨f.b,f.o,none⟩),ae a vs.length pc] w λe w'=>∃g,e=.returned (.tuple #[ae (some ⟨g,0,none⟩) vs.length vs.length,ab 0])/\Hid (yw base f room (jP ws n vs) nm M g w w'):=by
 obtain⟨y,B⟩:=d.all E D;obtain⟨t,P,Q,m,q,J,K,L,N,O⟩:=id j;obtain⟨⟨F,v,G,H⟩,A⟩:=m.cells;obtain⟨h,i,rfl⟩:∃h i,t=ae h ws.length i:=by
  rcases q.2 with⟨e,x⟩|⟨g,c,I,e,_⟩
  ·exact⟨none,0,by rw[e,x]⟩
  ·exact⟨_,c,e⟩
 refine(yS (jP ws n vs) f h ws.length i a vs.length pc w m.lt v (A _) ?_ ?_).mono ?_
 ·have s:=yF base f room ws nm M vs a vs.length pc w j (by omega) rfl (by have:=d.2.2.2.2.2;omega) r B;rw[y]at s;exact s
 ·intro u k;refine BV ws nm n vs p base (ae h ws.length i) a pc u (dT q k) d.1 d.2.1 (by omega) (by have:=d.2.2.2.2.2;omega) d.2.2.2.1 d.2.2.2.2.1 (CG r k) ?_;intro b o e;exact aR (C b o e) k.size
 ·rintro e w' ⟨g,t,u,R,rfl,rfl,l⟩;exact⟨g,rfl,Jg j l.1 l.2 z⟩
def oY(ws:List Wd):Nat->Wd->List Nat
 | 0,_=> []
 | n+1,v=>if v.1=4 then
    match ws[v.2.toNat]? with
    | some a=>v.2.toNat::(cr ws v.2.toNat a.2.toNat).flatMap (oY ws n)
    | none=> []
  else []
theorem mE{ws:List Wd}{n:Nat}{v:Wd}(a:v.1≠4):oY ws n v=[]:=by
 cases n with
 | zero=>rfl
 | succ n=>simp[oY,a]
theorem rL{ws:List Wd}{n p m:Nat}(a:ws[p]?=some (0,(m:Int))):oY ws (n+1) (4,(p:Int))=p::(cr ws p m).flatMap (oY ws n):=by
 simp[oY,a]
theorem xC{nm:List ByteArray}{s:ByteArray}(a:s∈nm):eO nm s=nm:=by
 unfold eO;rw[if_pos ((zt nm s).2 a)]
theorem AP{ws:List Wd}{nm:List ByteArray}{n:Nat}(ih:∀(x:Tm n)(v:Wd)(S:List Wd×cY),dI ws nm n x v->(oY ws n v).Nodup->(∀p∈oY ws n v,look S.2 p=none)->((jL ws n v S).1=(aW n x S.1 nm).1/\(jL ws n v S).2.1=(aW n x S.1 nm).2.1/\(aW n x S.1 nm).2.2=nm)/\∀p,look (jL ws n v S).2.2 p=none ↔ look S.2 p=none/\p∉oY ws n v):(us:List Wd)->(ys:List (Tm n))->gF ws nm n us ys->(S:List Wd×cY)->(us.flatMap (oY ws n)).Nodup->(∀p∈us.flatMap (oY ws n),look S.2 p=none)-> ((gM (jL ws n) us S).1=(bL (aW n) ys S.1 nm).1/\(gM (jL ws n) us S).2.1=(bL (aW n) ys S.1 nm).2.1/\(bL (aW n) ys S.1 nm).2.2=nm)/\∀p,look (gM (jL ws n) us S).2.2 p=none ↔ look S.2 p=none/\p∉us.flatMap (oY ws n)
 | us,ys,a,S,hn,hl=>by
  induction us generalizing ys S with
  | nil=>
   obtain rfl:ys=[]:=by have:=a.1;cases ys with|nil=>rfl|cons e l=>simp at this
   simp[gM,bL]
  | cons v us z=>
   cases ys with
   | nil=>have:=a.1;simp at this
   | cons d ys=>
    have r:dI ws nm n d v:=a.2 0 v d (by simp) (by simp);have w:gF ws nm n us ys:=⟨by have:=a.1;simpa using this,λy e b s t=>a.2 (y+1) e b (by simpa using s) (by simpa using t)⟩;rw[bF]at hn hl;obtain⟨A,B,C⟩:=ft.1 hn;obtain⟨⟨g,h,i⟩,f⟩:=ih d v S r A (λp c=>hl p (List.mem_append_left _ c));have u:∀p∈us.flatMap (oY ws n),look (jL ws n v S).2.2 p=none:=λp c=>(f p).2 ⟨hl p (List.mem_append_right _ c),λq=>C p q p c rfl⟩;obtain⟨⟨j,k,m⟩,o⟩:=z ys w (jL ws n v S).2 B u;simp only[gM,bL];rw[i,<-h];refine⟨⟨by rw[g,j],k,m⟩,λp=>?_⟩;rw[o p,f p,bF,dl,not_or,and_assoc]
theorem EU{ws:List Wd}{nm:List ByteArray}(g:nm.Nodup):(n:Nat)->(x:Tm n)->(v:Wd)->(S:List Wd×cY)->dI ws nm n x v->(oY ws n v).Nodup->(∀p∈oY ws n v,look S.2 p=none)-> ((jL ws n v S).1=(aW n x S.1 nm).1/\(jL ws n v S).2.1=(aW n x S.1 nm).2.1/\(aW n x S.1 nm).2.2=nm)/\∀p,look (jL ws n v S).2.2 p=none ↔ look S.2 p=none/\p∉oY ws n v
 | 0,_,_,_,h,_,_=>h.elim
 | n+1,x,v,S,h,hn,hl=>by
  by_cases b:x.1.1=4
  ·obtain⟨p,rfl,i,u,s⟩:=jC h b;rw[rL i]at hn hl ⊢;have o:=hl p (by simp);rw[yV o i];have r:=mU.1 hn;obtain⟨⟨k,f,l⟩,m⟩:=AP (λx v S=>EU g n x v S) (cr ws p x.2.2.length) x.2.2 s S r.2 (λq c=>hl q (bM _ c));have e:aW (n+1) x S.1 nm=((4,((bL (aW n) x.2.2 S.1 nm).2.1.length:Int)),(bL (aW n) x.2.2 S.1 nm).2.1++(0,(x.2.2.length:Int))::(bL (aW n) x.2.2 S.1 nm).1,(bL (aW n) x.2.2 S.1 nm).2.2):=by
    simp only[aW];rw[if_neg (by omega),if_pos b]
   rw[e];refine⟨⟨by rw[f],by rw[k,f],l⟩,λq=>?_⟩;by_cases c:q=p
   ·subst c;rw[sB];simp
   ·rw[qr _ _ c,m q];simp[c]
  ·have j:=iR h b;rw[uH j,mE j];refine⟨⟨?_,?_,?_⟩,λq=>by simp⟩
   ·simp only[aW];by_cases a:x.1.1=2
    ·rw[if_pos a];obtain⟨t,rfl,d⟩:=h.1 a;rw[xC (aJ d),Bz g d]
    ·rw[if_neg a,if_neg b];exact h.2.2 a b
   ·simp only[aW];split
    ·rfl
    ·rfl
   ·simp only[aW];split
    ·rename_i a;obtain⟨t,rfl,d⟩:=h.1 a;exact xC (aJ d)
    ·rfl
theorem DR{ws a:List Wd}(b:ws <+:a){p m:Nat}(c:p+1+m<=ws.length):cr a p m=cr ws p m:=by
 obtain⟨t,rfl⟩:=b;unfold cr;rw[pn (by omega),gV (by rw[eZ];omega)]
theorem ML{ws b:List Wd}(c:ws <+:b){p:Nat}{v:Wd}(a:ws[p]?=some v):b[p]?=some v:=by
 obtain⟨t,rfl⟩:=c;rw[dr (aS.1 a).1];exact a
theorem nu{c β:Type}{f g:c->List β}:{l:List c}->(∀a∈l,f a=g a)->l.flatMap f=l.flatMap g
 | [],_=>rfl
 | a::l,h=>by rw[bF,bF,h a (by simp),nu (l:=l) λb d=>h b (by simp[d])]
theorem rK{ws d:List Wd}{nm:List ByteArray}(b:ws <+:d):(n:Nat)->(x:Tm n)->(v:Wd)->dI ws nm n x v->oY d n v=oY ws n v
 | 0,_,_,h=>h.elim
 | n+1,x,v,h=>by
  by_cases a:x.1.1=4
  ·obtain⟨p,rfl,c,e,f⟩:=jC h a;rw[rL c,rL (ML b c),DR b e];congr 1;refine nu λu g=>?_;obtain⟨y,_,i⟩:=f.mem g;exact rK b n y u i
  ·rw[mE (iR h a),mE (iR h a)]
theorem zx{ws:List Wd}{nm:List ByteArray}:(n:Nat)->(x:Tm n)->(v:Wd)->dI ws nm n x v->∀p∈oY ws n v,p<ws.length
 | 0,_,_,h,_,_=>h.elim
 | n+1,x,v,h,q,a=>by
  by_cases b:x.1.1=4
  ·obtain⟨p,rfl,c,g,d⟩:=jC h b;rw[rL c,cm,jI]at a;rcases a with rfl|⟨u,e,a⟩
   ·omega
   ·obtain⟨y,_,f⟩:=d.mem e;exact zx n y u f q a
  ·rw[mE (iR h b)]at a;cases a
theorem vf{n:Nat}(ih:∀(x:Tm n)(ws:List Wd)(nm:List ByteArray),aD ⟨n,x⟩->(oY (aW n x ws nm).2.1 n (aW n x ws nm).1).Nodup/\∀p∈oY (aW n x ws nm).2.1 n (aW n x ws nm).1,ws.length<=p):(l:List (Tm n))->(ws:List Wd)->(nm:List ByteArray)->(∀y∈l,aD ⟨n,y⟩)->((bL (aW n) l ws nm).1.flatMap (oY (bL (aW n) l ws nm).2.1 n)).Nodup/\∀p∈(bL (aW n) l ws nm).1.flatMap (oY (bL (aW n) l ws nm).2.1 n),ws.length<=p
 | [],_,_,_=>by simp[bL]
 | y::l,ws,nm,hr=>by
  have f:=ih y ws nm (hr y (by simp));have g:=gN n y ws nm (hr y (by simp));have d:=vf ih l (aW n y ws nm).2.1 (aW n y ws nm).2.2 (λo m=>hr o (by simp[m]));have c:=(rv (λx ws nm=>mu n x ws nm) l (aW n y ws nm).2.1 (aW n y ws nm).2.2).1;have k:=rK c n y _ g;have j:=zx n y _ g;have q:=(mu n y ws nm).1.length_le;simp only[bL,bF];rw[k];refine⟨ft.2 ⟨f.1,d.1,λa h b i e=>?_⟩,λp c=>?_⟩
  ·have:=j a h;have:=d.2 b i;omega
  ·rcases dl.1 c with c|c
   ·exact f.2 p c
   ·have:=d.2 p c;omega
theorem zj:(n:Nat)->(x:Tm n)->(ws:List Wd)->(nm:List ByteArray)->aD ⟨n,x⟩->(oY (aW n x ws nm).2.1 n (aW n x ws nm).1).Nodup/\∀p∈oY (aW n x ws nm).2.1 n (aW n x ws nm).1,ws.length<=p
 | 0,_,_,_,h=>(dj h).elim
 | n+1,x,ws,nm,h=>by
  by_cases q:x.1.1=4
  ·have e:aW (n+1) x ws nm=((4,((bL (aW n) x.2.2 ws nm).2.1.length:Int)),(bL (aW n) x.2.2 ws nm).2.1++(0,(x.2.2.length:Int))::(bL (aW n) x.2.2 ws nm).1,(bL (aW n) x.2.2 ws nm).2.2):=by
     simp only[aW];rw[if_neg (by omega),if_pos q]
   have r:∀o∈x.2.2,aD ⟨n,o⟩:=λo B=>aV n x o h B;have k:=vf (λx ws nm l=>zj n x ws nm l) x.2.2 ws nm r;have A:=(rv (λx ws nm=>mu n x ws nm) x.2.2 ws nm).1.length_le;have s:=ol (λx ws nm l=>gN n x ws nm l) x.2.2 ws nm r;have v:=gO (aW n) x.2.2 ws nm;rw[e];generalize (bL (aW n) x.2.2 ws nm).2.1=c at*;generalize (bL (aW n) x.2.2 ws nm).1=d at*;generalize (bL (aW n) x.2.2 ws nm).2.2=D at*;have t:(c++(0,(x.2.2.length:Int))::d)[c.length]?=some (0,(x.2.2.length:Int)):=by simp
   have z:cr (c++(0,(x.2.2.length:Int))::d) c.length x.2.2.length=d:=by rw[<-v];exact Hb (gB _)
   have y:d.flatMap (oY (c++(0,(x.2.2.length:Int))::d) n)=d.flatMap (oY c n):=nu λm j=>by
    obtain⟨i,f⟩:=cW j;have u:=(aS.1 f).1;obtain⟨C,b,g⟩:=s i (x.2.2[i]'(by omega)) (aI _);rw[f]at b;injection b with b;subst b;exact rK (pu _ _) n _ m g
   have w:∀p∈d.flatMap (oY c n),p<c.length:=λp a=>by
    obtain⟨m,j,a⟩:=jI.1 a;obtain⟨i,f⟩:=cW j;have u:=(aS.1 f).1;obtain⟨C,b,g⟩:=s i (x.2.2[i]'(by omega)) (aI _);rw[f]at b;injection b with b;subst b;exact zx n _ m g p a
   simp only;rw[rL t,z,y];refine⟨mU.2 ⟨λa=>by have:=w _ a;omega,k.1⟩,λp a=>?_⟩;rcases cm.1 a with rfl|a
   ·exact A
   ·exact k.2 p a
  ·have g:=gN (n+1) x ws nm h;rw[mE (iR g q)];simp
theorem Bi(n:Nat):(l:List (Tm n))->(ws:List Wd)->(nm:List ByteArray)->((bL (aW n) l ws nm).2.1.length:Int)=ws.length+(l.map (sz n)).sum
 | [],_,_=>by simp[bL]
 | y::l,ws,nm=>by
  have a:=(iQ n y ws nm).1;have b:=Bi n l (aW n y ws nm).2.1 (aW n y ws nm).2.2;simp only[bL,aN,bI];omega
theorem D0{ws:List Wd}{nm:List ByteArray}(d:nm.Nodup){n:Nat}{vs:List Wd}{p:List (Tm n)}(b:gF ws nm n vs p)(c:(vs.flatMap (oY ws n)).Nodup):(jP ws n vs).1=(bL (aW n) p [] nm).1/\(jP ws n vs).2.1=(bL (aW n) p [] nm).2.1/\(bL (aW n) p [] nm).2.2=nm:=
 (AP (λf e a=>EU d n f e a) vs p b ([],[]) c (λ_ _=>rfl)).1
def nP:ByteArray:=⟨#[99,111,100,101]⟩
def tT:ByteArray:=⟨#[98,101,104]⟩
def Lw:ByteArray:=⟨#[111,110]⟩
def mL:ByteArray:=⟨#[115,101,110,100]⟩
def je:ByteArray:=⟨#[115,112,97,119,110]⟩
def mK:ByteArray:=⟨#[108,105,110,107]⟩
def lR:ByteArray:=⟨#[115,116,111,112]⟩
def eV(n:Nat)(x:Tm n):Bool:=(gj n x).1.1==0 && (gj n x).1.2.1==0 && (gj n x).1.2.2.toList.isEmpty && ((gj n x).2.2.1:Int)==0
def wJ(s:ByteArray)(v:Int):Bool:=s.toList.isEmpty && v==0
def nR(n:Nat)(a:Ac n):Bool:=
 if a.1=1 then wJ a.2.2.1 a.2.2.2
 else if a.1=2 then eV n a.2.1.1 && dQ a.2.2.1 && decide (0<=a.2.2.2) && decide (a.2.2.2<4)
 else if a.1=3 then eV n a.2.1.2 && wJ a.2.2.1 a.2.2.2
 else if a.1=4 then eV n a.2.1.1 && eV n a.2.1.2 && wJ a.2.2.1 a.2.2.2
 else false
def tE(n:Nat)(c:Cl n):Bool:=decide ((c.2.2.length:Int)<=8) && c.2.2.all (nR n)
def wC(n:Nat)(b:Bh n):Bool:=dQ b.1 && decide (1<=(b.2.2.length:Int)) && decide ((b.2.2.length:Int)<=6) && b.2.2.all (tE n)
def kA(n:Nat)(l:List (Bh n)):Bool:=decide (1<=(l.length:Int)) && decide ((l.length:Int)<=7) && l.all (wC n)
def bf(s:ByteArray)(N:Nat):Tm (N+1):=((2,0,s),(none,0),[])
def cg(n:Nat)(a:Ac (n+1)):Tm (n+2):=
 if a.1=1 then df (n+1) [bf mL n,a.2.1.1,a.2.1.2]
 else if a.1=2 then df (n+1) [bf je n,bf a.2.2.1 n,a.2.1.2,bO 5 a.2.2.2 n]
 else if a.1=3 then df (n+1) [bf mK n,a.2.1.1]
 else df (n+1) [bf lR n]
def dE(n:Nat)(c:Cl (n+1)):Tm (n+4):=
 df (n+3) [bf Lw (n+2),aT (n+3) (n+1) c.1.1,aT (n+3) (n+1) c.1.2.1,df (n+2) (c.2.2.map (cg n)),aT (n+3) (n+1) c.1.2.2]
def dM(n:Nat)(b:Bh (n+1)):Tm (n+5):=df (n+4) (bf tT (n+3)::bf b.1 (n+3)::b.2.2.map (dE n))
def bW(n:Nat)(l:List (Bh (n+1))):Tm (n+6):=df (n+5) (bf nP (n+4)::l.map (dM n))
def eT{a β:Type}(R:a->β->Prop)(l:List a)(r:List β):Prop:=l.length=r.length/\∀(i:Nat)(x:a)(y:β),l[i]?=some x->r[i]?=some y->R x y
theorem eT.nil{b β:Type}{R:b->β->Prop}:eT R [] []:=⟨rfl,λi x y a=>by simp at a⟩
theorem eT.snoc{g β:Type}{R:g->β->Prop}{l:List g}{r:List β}(d:eT R l r){x:g}{y:β}(k:R x y):eT R (l++ [x]) (r++ [y]):=by
 refine⟨by simp[d.1],λf i b a c=>?_⟩;by_cases h:f<l.length
 ·rw[dr h]at a;rw[dr (by rw[<-d.1];exact h)]at c;exact d.2 f i b a c
 ·rw[ed (by omega)]at a;rw[ed (by rw[<-d.1];omega)]at c;have e:f-l.length=0:=by
   by_cases e:f-l.length=0
   ·exact e
   ·rw[eI (by simp;omega)]at a;cases a
  rw[<-d.1,e]at c;rw[e]at a;simp at a c;rw[<-a,<-c];exact k
theorem eT.tail{c β:Type}{R:c->β->Prop}{x:c}{y:β}{l:List c}{r:List β}(a:eT R (x::l) (y::r)):R x y/\eT R l r:=
 ⟨a.2 0 x y (by simp) (by simp),by simpa using a.1,λg d b e f=>a.2 (g+1) d b (by simpa using e) (by simpa using f)⟩
theorem eT.all{a β:Type}{R:a->β->Prop}(f:a->Bool)(g:β->Bool)(b:∀x y,R x y->f x=g y):(l:List a)->(r:List β)->eT R l r->l.all f=r.all g
 | [],[],_=>rfl
 | [],_::_,h=>by have:=h.1;simp at this
 | _::_,[],h=>by have:=h.1;simp at this
 | x::l,y::r,h=>by
  simp only[ji,b x y h.tail.1,eT.all f g b l r h.tail.2]
theorem eT.same{c β:Type}{R:c->β->Prop}{n m:Nat}(f:c->Tm n)(g:β->Tm m)(d:∀x y,R x y->ax n (f x) m (g y)=true):(l:List c)->(r:List β)->eT R l r->aB (λa b=>ax n a m b) (l.map f) (r.map g)=true
 | [],[],_=>rfl
 | [],_::_,h=>by have:=h.1;simp at this
 | _::_,[],h=>by have:=h.1;simp at this
 | x::l,y::r,h=>by
  simp only[aN,aB,aG];exact⟨d x y h.tail.1,eT.same f g d l r h.tail.2⟩
def CS(n:Nat)(a b:Ac n):Prop:=a.1=b.1/\ax n a.2.1.1 n b.2.1.1=true/\ax n a.2.1.2 n b.2.1.2=true/\a.2.2=b.2.2
def CM(n:Nat)(a b:Cl n):Prop:=(ax n a.1.1 n b.1.1=true/\ax n a.1.2.1 n b.1.2.1=true/\ax n a.1.2.2 n b.1.2.2=true)/\eT (CS n) a.2.2 b.2.2
def yH(n:Nat)(a b:Bh n):Prop:=a.1=b.1/\eT (CM n) a.2.2 b.2.2
theorem Fx{n m:Nat}{x:Tm n}{y:Tm m}(a:ax n x m y=true):(gj n x).1=(gj m y).1/\(gj n x).2.2.1=(gj m y).2.2.1:=by
 cases n with
 | zero=>simp[ax]at a
 | succ n=>
  cases m with
  | zero=>simp[ax]at a
  | succ m=>
   have b:=bG a;have c:=cI _ _ _ b.2;simp only[gj,bD];exact⟨b.1,c⟩
theorem rO{n m:Nat}{x:Tm n}{y:Tm m}(b:ax n x m y=true):eV n x=eV m y:=by
 have a:=Fx b;simp only[eV,a.1,a.2]
theorem O3{n:Nat}{a b:Ac n}(c:CS n a b):nR n a=nR n b:=by
 obtain⟨d,e,f,g⟩:=c;simp only[nR,d,g,rO e,rO f]
theorem O5{n:Nat}{a b:Cl n}(c:CM n a b):tE n a=tE n b:=by
 simp only[tE,c.2.1,eT.all (R:=CS n) (nR n) (nR n) (λ_ _ c=>O3 c) _ _ c.2]
theorem O4{n:Nat}{a b:Bh n}(c:yH n a b):wC n a=wC n b:=by
 simp only[wC,c.1,c.2.1,eT.all (R:=CM n) (tE n) (tE n) (λ_ _ c=>O5 c) _ _ c.2]
theorem Kq{n:Nat}{l r:List (Bh n)}(a:eT (yH n) l r):kA n l=kA n r:=by
 simp only[kA,a.1,eT.all (R:=yH n) (wC n) (wC n) (λ_ _ a=>O4 a) _ _ a]
theorem dU(s:ByteArray)(N M:Nat):ax (N+1) (bf s N) (M+1) (bf s M)=true:=dc rfl rfl
theorem Dz(k u:Int)(N M:Nat):ax (N+1) (bO k u N) (M+1) (bO k u M)=true:=dc rfl rfl
theorem gS{N M:Nat}{l:List (Tm N)}{r:List (Tm M)}(c:aB (λa b=>ax N a M b) l r=true):ax (N+1) (df N l) (M+1) (df M r)=true:=dc rfl c
theorem mw:(N n:Nat)->n<=N->(x:Tm n)->ax n x n x=true->ax N (aT N n x) n x=true
 | _,0,_,_,h=>by simp[ax]at h
 | 0,n+1,h,_,_=>by omega
 | N+1,n+1,h,x,hr=>by
  have b:=(bG hr).2;refine dc rfl (iW _ _ _ λy c=>mw N n (by omega) y ?_);obtain⟨i,a⟩:=cW c;exact jA _ _ _ b i y y a a
theorem xV{n m:Nat}{x:Tm n}{y:Tm m}(a:ax n x m y=true):ax n x n x=true:=bH _ _ _ _ _ _ a (dw _ _ _ _ a)
theorem D9{n m:Nat}{x:Tm n}{y:Tm m}(a:ax n x m y=true):ax m y m y=true:=bH _ _ _ _ _ _ (dw _ _ _ _ a) a
theorem oR{N n m:Nat}(c:n<=N)(b:m<=N){x:Tm n}{y:Tm m}(a:ax n x m y=true):ax N (aT N n x) N (aT N m y)=true:=
 bH _ _ _ _ _ _ (mw N n c x (xV a)) (bH _ _ _ _ _ _ a (dw _ _ _ _ (mw N m b y (D9 a))))
theorem lL{B:Nat}{w:World}:{n:Nat}->{x:Tm n}->In B w n x->ax n x n x=true
 | 0,_,k=>k.elim
 | n+1,x,k=>by
  refine dc rfl (iX _ _ λy a=>?_);obtain⟨i,c⟩:=cW a;rcases k.2 with e|⟨b,o,_,_,d⟩
  ·rw[e]at a;cases a
  ·exact lL (d i y c).2
theorem IW{n:Nat}{a b:Ac (n+1)}(e:CS (n+1) a b):ax (n+2) (cg n a) (n+2) (cg n b)=true:=by
 obtain⟨f,c,d,g⟩:=e;unfold cg;rw[f,g];split
 ·exact gS (by simp[aB,dU,c,d])
 split
 ·exact gS (by simp[aB,dU,Dz,d])
 split
 ·exact gS (by simp[aB,dU,c])
 ·exact gS (by simp[aB,dU])
theorem Jc{n:Nat}{a b:Cl (n+1)}(c:CM (n+1) a b):ax (n+4) (dE n a) (n+4) (dE n b)=true:=by
 have d:=eT.same (cg n) (cg n) (λ_ _ c=>IW c) _ _ c.2;exact gS (by simp only[aB,aG];exact⟨dU _ _ _,oR (by omega) (by omega) c.1.1,oR (by omega) (by omega) c.1.2.1,gS d,oR (by omega) (by omega) c.1.2.2,trivial⟩)
theorem I1{n:Nat}{a b:Bh (n+1)}(c:yH (n+1) a b):ax (n+5) (dM n a) (n+5) (dM n b)=true:=by
 have d:=eT.same (dE n) (dE n) (λ_ _ c=>Jc c) _ _ c.2;refine gS ?_;simp only[aB,aG];exact⟨dU _ _ _,by rw[c.1];exact dU _ _ _,d⟩
theorem Kr{n:Nat}{l r:List (Bh (n+1))}(a:eT (yH (n+1)) l r):ax (n+6) (bW n l) (n+6) (bW n r)=true:=by
 have b:=eT.same (dM n) (dM n) (λ_ _ a=>I1 a) _ _ a;refine gS ?_;simp only[aB,aG];exact⟨dU _ _ _,b⟩
theorem dD(k u:Int)(s:ByteArray)(a:Option Addr)(l c:Nat)(w:World):ak 195 #[.agg #[ab k,ab u,af s,ae a l c]] w λe w'=>e=.returned (.bool (k==0 && u==0 && s.toList.isEmpty && (l:Int)==0))/\w'=w.alloc (.cells #[ab k,ab u,af s,ae a l c] 31):=by
 cases h1:k==0
 ·go_enter func195,ntmps195;go_wp2_with fail
  go_ret
  exact⟨rfl,rfl⟩
 cases h2:u==0
 ·go_enter func195,ntmps195;go_wp2_with fail
  go_ret
  exact⟨rfl,rfl⟩
 cases h3:s.toList.isEmpty
 ·go_enter func195,ntmps195;go_wp2_with fail
  go_ret
  exact⟨rfl,rfl⟩
 go_enter func195,ntmps195;go_wp2_with fail
 go_ret
 exact⟨rfl,rfl⟩
theorem qA(K t0 t1 a b v:Int)(t2 c s:ByteArray)(t3 d:Option Addr)(t4 t5 f g:Nat)(w:World):ak 194 #[.agg #[ab K,ab t0,ab t1,af t2,ae t3 t4 t5,ab a,ab b,af c,ae d f g,af s,ab v]] w λe w'=>e=.returned (.bool (wJ s v))/\w'=w.alloc (.cells #[ab K,ab t0,ab t1,af t2,ae t3 t4 t5,ab a,ab b,af c,ae d f g,af s,ab v] 248):=by
 unfold wJ;cases h3:s.toList.isEmpty
 ·go_enter func194,ntmps194;go_wp2_with fail
  go_ret
  exact⟨rfl,rfl⟩
 go_enter func194,ntmps194;go_wp2_with fail
 go_ret
 exact⟨rfl,rfl⟩
theorem Ds(K t0 t1 o p v:Int)(t2 q s:ByteArray)(t3 t:Option Addr)(t4 t5 r u:Nat)(w:World)(m:s.size<=9223372036854775807)(h i l n:Bool)(a:Hid ((t0==0 && t1==0 && t2.toList.isEmpty && (t4:Int)==0)=h))(d:Hid ((o==0 && p==0 && q.toList.isEmpty && (r:Int)==0)=i))(j:Hid (wJ s v=l))(f:Hid (dQ s=n)):ak 179 #[.agg #[ab K,ab t0,ab t1,af t2,ae t3 t4 t5,ab o,ab p,af q,ae t r u,af s,ab v]] w λe w'=>e=.returned (.bool (if K=1 then l else if K=2 then h && n && decide (0<=v) && decide (v<4)else if K=3 then i && l else if K=4 then h && i && l else false))/\aj w w':=by
 by_cases b:K=1
 ·subst b;rw[if_pos rfl];go_enter func179,ntmps179;go_wp2_with (go_at_call 194;refine(qA _ _ _ _ _ _ _ _ _ _ _ _ _ _ _ _).mono ?_;rintro e w' ⟨rfl,rfl⟩;rw[j.out])
  go_ret
  exact⟨rfl,by go_grown⟩
 rw[if_neg b];by_cases c:K=2
 ·subst c;rw[if_pos rfl];clear d j b;cases h
  ·go_enter func179,ntmps179;go_wp2_with (go_at_call 195;refine(dD _ _ _ _ _ _ _).mono ?_;rintro e w' ⟨rfl,rfl⟩;rw[a.out])
   go_ret
   exact⟨rfl,by go_grown⟩
  cases n
  ·go_enter func179,ntmps179;go_wp2_with (first|(go_at_call 195;refine(dD _ _ _ _ _ _ _).mono ?_;rintro e w' ⟨rfl,rfl⟩;rw[a.out])|(go_at_call 71;refine(iP _ _ m).mono ?_;rintro e w' ⟨rfl,rfl⟩;rw[f.out]))
   go_ret
   exact⟨rfl,by go_grown⟩
  cases hv:decide (0<=v)
  ·go_enter func179,ntmps179;go_wp2_with (first|(go_at_call 195;refine(dD _ _ _ _ _ _ _).mono ?_;rintro e w' ⟨rfl,rfl⟩;rw[a.out])|(go_at_call 71;refine(iP _ _ m).mono ?_;rintro e w' ⟨rfl,rfl⟩;rw[f.out]))
   go_ret
   exact⟨rfl,by go_grown⟩
  ·go_enter func179,ntmps179;go_wp2_with (first|(go_at_call 195;refine(dD _ _ _ _ _ _ _).mono ?_;rintro e w' ⟨rfl,rfl⟩;rw[a.out])|(go_at_call 71;refine(iP _ _ m).mono ?_;rintro e w' ⟨rfl,rfl⟩;rw[f.out]))
   go_ret
   exact⟨rfl,by go_grown⟩
 rw[if_neg c];by_cases g:K=3
 ·subst g;rw[if_pos rfl];clear a f b c;cases i
  ·go_enter func179,ntmps179;go_wp2_with (go_at_call 195;refine(dD _ _ _ _ _ _ _).mono ?_;rintro e w' ⟨rfl,rfl⟩;rw[d.out])
   go_ret
   exact⟨rfl,by go_grown⟩
  ·go_enter func179,ntmps179;go_wp2_with (first|(go_at_call 195;refine(dD _ _ _ _ _ _ _).mono ?_;rintro e w' ⟨rfl,rfl⟩;rw[d.out])|(go_at_call 194;refine(qA _ _ _ _ _ _ _ _ _ _ _ _ _ _ _ _).mono ?_;rintro e w' ⟨rfl,rfl⟩;rw[j.out]))
   go_ret
   exact⟨rfl,by go_grown⟩
 rw[if_neg g];by_cases k:K=4
 ·subst k;rw[if_pos rfl];clear f b c g;cases h
  ·go_enter func179,ntmps179;go_wp2_with (go_at_call 195;refine(dD _ _ _ _ _ _ _).mono ?_;rintro e w' ⟨rfl,rfl⟩;rw[a.out])
   go_ret
   exact⟨rfl,by go_grown⟩
  cases i
  ·go_enter func179,ntmps179;go_wp2_with (go_at_call 195;refine(dD _ _ _ _ _ _ _).mono ?_;rintro e w' ⟨rfl,rfl⟩;first|rw[a.out]|rw[d.out])
   go_ret
   exact⟨rfl,by go_grown⟩
  ·go_enter func179,ntmps179;go_wp2_with (first|(go_at_call 195;refine(dD _ _ _ _ _ _ _).mono ?_;rintro e w' ⟨rfl,rfl⟩;first|rw[a.out]|rw[d.out])|(go_at_call 194;refine(qA _ _ _ _ _ _ _ _ _ _ _ _ _ _ _ _).mono ?_;rintro e w' ⟨rfl,rfl⟩;rw[j.out]))
   go_ret
   exact⟨rfl,by go_grown⟩
 rw[if_neg k];have x:(K==1)=false:=by simpa using b
 have y:(K==2)=false:=by simpa using c
 have z:(K==3)=false:=by simpa using g
 have A:(K==4)=false:=by simpa using k
 clear b c g k;go_enter func179,ntmps179;go_wp2_with fail
 go_ret
 exact⟨rfl,by go_grown⟩
theorem GA(n:Nat)(a:Ac (n+1))(w:World)(b:a.2.2.1.size<=maxLen):ak 179 #[.agg (f9 (n+1) a).toArray] w λe w'=>e=.returned (.bool (nR (n+1) a))/\aj w w':=by
 unfold maxLen at b;exact Ds a.1 _ _ _ _ _ _ _ _ _ _ _ _ _ _ w (by omega) _ _ _ _ rfl rfl rfl rfl
def NC(n:Nat)(w:World)(b o:Nat)(x:Ac (n+1)):Prop:=
 w.cell? ⟨b,o,none⟩=some (ab x.1)/\
 (w.cell? ⟨b,o+1,none⟩=some (ab x.2.1.1.1.1)/\w.cell? ⟨b,o+2,none⟩=some (ab x.2.1.1.1.2.1)/\w.cell? ⟨b,o+3,none⟩=some (af x.2.1.1.1.2.2)/\w.cell? ⟨b,o+4,none⟩=some (ae x.2.1.1.2.1.1 x.2.1.1.2.2.length x.2.1.1.2.1.2))/\
 (w.cell? ⟨b,o+5,none⟩=some (ab x.2.1.2.1.1)/\w.cell? ⟨b,o+6,none⟩=some (ab x.2.1.2.1.2.1)/\w.cell? ⟨b,o+7,none⟩=some (af x.2.1.2.1.2.2)/\w.cell? ⟨b,o+8,none⟩=some (ae x.2.1.2.2.1.1 x.2.1.2.2.2.length x.2.1.2.2.1.2))/\
 w.cell? ⟨b,o+9,none⟩=some (af x.2.2.1)/\w.cell? ⟨b,o+10,none⟩=some (ab x.2.2.2)
def NG(n:Nat)(w:World)(b o:Nat)(x:Cl (n+1)):Prop:=
 (w.cell? ⟨b,o,none⟩=some (ab x.1.1.1.1)/\w.cell? ⟨b,o+1,none⟩=some (ab x.1.1.1.2.1)/\w.cell? ⟨b,o+2,none⟩=some (af x.1.1.1.2.2)/\w.cell? ⟨b,o+3,none⟩=some (ae x.1.1.2.1.1 x.1.1.2.2.length x.1.1.2.1.2))/\
 (w.cell? ⟨b,o+4,none⟩=some (ab x.1.2.1.1.1)/\w.cell? ⟨b,o+5,none⟩=some (ab x.1.2.1.1.2.1)/\w.cell? ⟨b,o+6,none⟩=some (af x.1.2.1.1.2.2)/\w.cell? ⟨b,o+7,none⟩=some (ae x.1.2.1.2.1.1 x.1.2.1.2.2.length x.1.2.1.2.1.2))/\
 w.cell? ⟨b,o+8,none⟩=some (ae x.2.1.1 x.2.2.length x.2.1.2)/\
 (w.cell? ⟨b,o+9,none⟩=some (ab x.1.2.2.1.1)/\w.cell? ⟨b,o+10,none⟩=some (ab x.1.2.2.1.2.1)/\w.cell? ⟨b,o+11,none⟩=some (af x.1.2.2.1.2.2)/\w.cell? ⟨b,o+12,none⟩=some (ae x.1.2.2.2.1.1 x.1.2.2.2.2.length x.1.2.2.2.1.2))
theorem p8.ac{n B:Nat}{w:World}{e:Ac (n+1)->Prop}{a:Option Addr}{p:List (Ac (n+1))}(d:p8 B w 11 (f9 (n+1)) e a p)(k:Nat)(x:Ac (n+1))(f:p[k]?=some x):∃b o,a=some ⟨b,o,none⟩/\b<B/\NC n w b (o+k*11) x/\e x:=by
 rcases d with d|⟨b,o,g,i,d⟩
 ·subst d;simp at f
 ·obtain⟨c,h⟩:=d k x f;exact⟨b,o,g,i,⟨c 0 _ rfl,⟨c 1 _ rfl,c 2 _ rfl,c 3 _ rfl,c 4 _ rfl⟩,⟨c 5 _ rfl,c 6 _ rfl,c 7 _ rfl,c 8 _ rfl⟩,c 9 _ rfl,c 10 _ rfl⟩,h⟩
theorem p8.cl{n B:Nat}{w:World}{e:Cl (n+1)->Prop}{a:Option Addr}{p:List (Cl (n+1))}(d:p8 B w 13 (e9 (n+1)) e a p)(k:Nat)(x:Cl (n+1))(f:p[k]?=some x):∃b o,a=some ⟨b,o,none⟩/\b<B/\NG n w b (o+k*13) x/\e x:=by
 rcases d with d|⟨b,o,g,i,d⟩
 ·subst d;simp at f
 ·obtain⟨c,h⟩:=d k x f;exact⟨b,o,g,i,⟨⟨c 0 _ rfl,c 1 _ rfl,c 2 _ rfl,c 3 _ rfl⟩,⟨c 4 _ rfl,c 5 _ rfl,c 6 _ rfl,c 7 _ rfl⟩,c 8 _ rfl,c 9 _ rfl,c 10 _ rfl,c 11 _ rfl,c 12 _ rfl⟩,h⟩
theorem p8.bh{n B:Nat}{w:World}{d:Bh (n+1)->Prop}{a:Option Addr}{p:List (Bh (n+1))}(c:p8 B w 2 (pH (n+1)) d a p)(k:Nat)(x:Bh (n+1))(f:p[k]?=some x):∃b o,a=some ⟨b,o,none⟩/\b<B/\(w.cell? ⟨b,o+k*2,none⟩=some (af x.1)/\w.cell? ⟨b,o+k*2+1,none⟩=some (ae x.2.1.1 x.2.2.length x.2.1.2))/\d x:=by
 rcases c with c|⟨b,o,g,i,c⟩
 ·subst c;simp at f
 ·obtain⟨e,h⟩:=c k x f;exact⟨b,o,g,i,⟨e 0 _ rfl,e 1 _ rfl⟩,h⟩
theorem ky{b:Type}{c:Nat->World->b->Prop}{d:(Nat->Prop)->b->Prop}(g:jU c d){k:Nat}{f:b->List Value}{a:Option Addr}{B:Nat}{w w':World}(h:Below B w w'){l:List b}(e:p8 B w k f (c B w) a l):p8 B w' k f (c B w') a l:=(cG g k f a).below h e
theorem Ax(n:Nat)(p:List (Ac (n+1)))(len:Nat)(r:Hid (p.length=len))(a:Option Addr)(pc B:Nat)(w:World)(u:Hid (p8 B w 11 (f9 (n+1)) (iE (n+1) B w) a p))(C:len<=9223372036854775807)(s:B<=w.heap.size):ak 141 #[ae a len pc] w λe w'=>e=.returned (.bool (decide ((len:Int)<=8) && p.all (nR (n+1))))/\aj w w':=by
 by_cases x:(8:Int)<len
 ·have f:decide ((len:Int)<=8)=false:=by simp;omega
  rw[f];go_enter func141,ntmps141;go_wp2_with fail
  go_ret
  exact⟨rfl,ao _ _⟩
 have f:decide ((len:Int)<=8)=true:=by simp;omega
 rw[f,eE];clear f;go_enter func141,ntmps141;go_wp2_with fail;go_loopw [10] (λj wr=>∃k:Nat,k<=len/\j=ab k/\aj w wr/\Hid ((p.drop k).all (nR (n+1))=p.all (nR (n+1)))) (λj _=>len-(intOf j).toNat)
 case atStart=>exact⟨0,by omega,rfl,ao _ _,rfl⟩
 case round=>
  obtain⟨k,y,rfl,d,h⟩:=hrel;by_cases t:k<len
  ·obtain⟨b,i⟩:∃b,p[k]?=some b:=⟨p[k]'(by rw[r.out];exact t),aI _⟩;have l:=ap (qU (nR (n+1)) p k b i);obtain⟨E,po,rfl,D,⟨F,⟨G,I,J,K⟩,⟨L,M,N,O⟩,P,H⟩,q⟩:=(ky (fJ (n+1)) (d.mono s) u).ac k b i;have g:=λc=>ap (GA n b c q.2.2.2.1);replace g:Hid (∀c,ak 179 #[.agg #[ab b.1,ab b.2.1.1.1.1,ab b.2.1.1.1.2.1,af b.2.1.1.1.2.2,ae b.2.1.1.2.1.1 b.2.1.1.2.2.length b.2.1.1.2.1.2,ab b.2.1.2.1.1,ab b.2.1.2.1.2.1,af b.2.1.2.1.2.2,ae b.2.1.2.2.1.1 b.2.1.2.2.2.length b.2.1.2.2.1.2,af b.2.2.1,ab b.2.2.2]] c λe w'=>e=.returned (.bool (nR (n+1) b))/\aj c w'):=λc=>(g c);clear q i;generalize nR (n+1) b=v at*;have z:(0:Int)<=(k:Int):=by omega
   have A:(k:Int)<(len:Int):=by omega
   go_wp2_with fail;refine(g _).mono ?_;rintro e c ⟨rfl,m⟩;have o:aj w c:=(d.trans (((ao _ _).alloc (am _) _).mono d.size)).trans (m.mono (by have:=d.size;simp;omega));clear m;cases v with
   | true=>
    go_wp2_with fail;go_roundw
    case rel=>exact⟨k+1,by omega,by go_num,o,by rw[<-h.out,l.out];rfl⟩
    case measure=>simp[intOf];omega
   | false=>
    go_wp2_with fail
    go_ret
    exact⟨bP (by rw[<-h.out,l.out];rfl),o⟩
  ·go_wp2_with fail
   go_ret
   refine⟨bP ?_,d⟩;rw[<-h.out,gu (by rw[r.out];omega)];rfl
theorem ux(n:Nat)(p:List (Cl (n+1)))(len:Nat)(s:Hid (p.length=len))(a:Option Addr)(pc B:Nat)(w:World)(y:Hid (p8 B w 13 (e9 (n+1)) (g8 (n+1) B w) a p))(G:len<=9223372036854775807)(m:B<=w.heap.size):ak 100 #[ae a len pc] w λe w'=>e=.returned (.bool (decide (1<=(len:Int)) && decide ((len:Int)<=6) && p.all (tE (n+1))))/\aj w w':=by
 by_cases A:(len:Int)<1
 ·have v:decide (1<=(len:Int))=false:=by simp;omega
  rw[v];go_enter func100,ntmps100;go_wp2_with fail
  go_ret
  exact⟨rfl,ao _ _⟩
 by_cases C:(6:Int)<len
 ·have f:decide ((len:Int)<=6)=false:=by simp;omega
  rw[f];go_enter func100,ntmps100;go_wp2_with fail
  go_ret
  exact⟨bP (by simp),ao _ _⟩
 have f:(decide (1<=(len:Int)) && decide ((len:Int)<=6))=true:=by simp;omega
 rw[f,eE];clear f;go_enter func100,ntmps100;go_wp2_with fail;go_loopw [15] (λj wr=>∃k:Nat,k<=len/\j=ab k/\aj w wr/\Hid ((p.drop k).all (tE (n+1))=p.all (tE (n+1)))) (λj _=>len-(intOf j).toNat)
 case atStart=>exact⟨0,by omega,rfl,ao _ _,rfl⟩
 case round=>
  obtain⟨k,D,rfl,d,g⟩:=hrel;by_cases x:k<len
  ·obtain⟨b,i⟩:∃b,p[k]?=some b:=⟨p[k]'(by rw[s.out];exact x),aI _⟩;have l:=ap (qU (tE (n+1)) p k b i);obtain⟨I,po,rfl,H,⟨⟨J,K,O,P⟩,⟨Q,R,S,T⟩,U,V,L,M,N⟩,h⟩:=(ky (ey (n+1)) (d.mono m) y).cl k b i;have o:B<=wr.heap.size:=az m d.size
   have u:Hid (∀c,aj wr c->ak 141 #[ae b.2.1.1 b.2.2.length b.2.1.2] c λe w'=>e=.returned (.bool (tE (n+1) b))/\aj c w'):=
    λc t=>Ax n b.2.2 b.2.2.length rfl b.2.1.1 b.2.1.2 B c (ky (fJ (n+1)) (t.mono o) h.2.2) (by have:=h.2.1;unfold maxLen at this;omega) (az o t.size)
   clear h i;generalize tE (n+1) b=z at*;have E:(0:Int)<=(k:Int):=by omega
   have F:(k:Int)<(len:Int):=by omega
   go_wp2_with fail;refine(u _ ((ao _ _).alloc (am _) _)).mono ?_;rintro e c ⟨rfl,q⟩;have r:aj w c:=(d.trans (((ao _ _).alloc (am _) _).mono d.size)).trans (q.mono (by have:=d.size;simp;omega));clear q;cases z with
   | true=>
    go_wp2_with fail;go_roundw
    case rel=>exact⟨k+1,by omega,by go_num,r,by rw[<-g.out,l.out];rfl⟩
    case measure=>simp[intOf];omega
   | false=>
    go_wp2_with fail
    go_ret
    exact⟨bP (by rw[<-g.out,l.out];rfl),r⟩
  ·go_wp2_with fail
   go_ret
   refine⟨bP ?_,d⟩;rw[<-g.out,gu (by rw[s.out];omega)];rfl
theorem NZ(n:Nat)(x:Bh n):wC n x=(dQ x.1 && (decide (1<=(x.2.2.length:Int)) && decide ((x.2.2.length:Int)<=6) && x.2.2.all (tE n))):=by
 simp only[wC,Bool.and_assoc]
theorem pQ(n:Nat)(p:List (Bh (n+1)))(len:Nat)(l:Hid (p.length=len))(a:Option Addr)(pc B:Nat)(w:World)(D:Hid (gh (n+1) B w a p))(M:len<=9223372036854775807)(s:B<=w.heap.size):ak 65 #[ae a len pc] w λe w'=>e=.returned (.bool (kA (n+1) p))/\aj w w':=by
 have r:Hid (kA (n+1) p=(decide (1<=(len:Int)) && decide ((len:Int)<=7) && p.all (wC (n+1)))):=by
  show kA (n+1) p=_;rw[<-l.out];rfl
 rw[r.out];by_cases H:(len:Int)<1
 ·have A:decide (1<=(len:Int))=false:=by simp;omega
  rw[A];go_enter func65,ntmps65;go_wp2_with fail
  go_ret
  exact⟨rfl,ao _ _⟩
 by_cases I:(7:Int)<len
 ·have f:decide ((len:Int)<=7)=false:=by simp;omega
  rw[f];go_enter func65,ntmps65;go_wp2_with fail
  go_ret
  exact⟨bP (by simp),ao _ _⟩
 have f:(decide (1<=(len:Int)) && decide ((len:Int)<=7))=true:=by simp;omega
 rw[f,eE];clear f r;go_enter func65,ntmps65;go_wp2_with fail;go_loopw [15] (λo wr=>∃k:Nat,k<=len/\o=ab k/\aj w wr/\Hid ((p.drop k).all (wC (n+1))=p.all (wC (n+1)))) (λo _=>len-(intOf o).toNat)
 case atStart=>exact⟨0,by omega,rfl,ao _ _,rfl⟩
 case round=>
  obtain⟨k,J,rfl,d,g⟩:=hrel;by_cases C:k<len
  ·obtain⟨b,m⟩:∃b,p[k]?=some b:=⟨p[k]'(by rw[l.out];exact C),aI _⟩;have j:=ap (qU (wC (n+1)) p k b m);obtain⟨O,po,rfl,N,⟨Q,R⟩,h⟩:=(gh.below (d.mono s) D).bh k b m;have t:B<=wr.heap.size:=az s d.size;have E:b.1.size<=9223372036854775807:=by have:=h.1;unfold maxLen at this;omega
   have z:Hid (∀c,aj wr c->ak 100 #[ae b.2.1.1 b.2.2.length b.2.1.2] c λe w'=>e=.returned (.bool (decide (1<=(b.2.2.length:Int)) && decide ((b.2.2.length:Int)<=6) && b.2.2.all (tE (n+1))))/\aj c w'):=
    λc y=>ux n b.2.2 b.2.2.length rfl b.2.1.1 b.2.1.2 B c (ky (ey (n+1)) (y.mono t) h.2.2) (by have:=h.2.1;unfold maxLen at this;omega) (az t y.size)
   have i:=ap (NZ (n+1) b);clear h m;generalize (decide (1<=(b.2.2.length:Int)) && decide ((b.2.2.length:Int)<=6) && b.2.2.all (tE (n+1)))=F at*;have K:(0:Int)<=(k:Int):=by omega
   have L:(k:Int)<(len:Int):=by omega
   have q:=λc=>ap (iP b.1 c E);generalize dQ b.1=G at*;generalize wC (n+1) b=P at*;have u:aj w (wr.alloc (.cells #[af b.1,ae b.2.1.1 b.2.2.length b.2.1.2] 151)):=d.trans (((ao _ _).alloc (am _) _).mono d.size);cases G with
   | false=>
    go_wp2_with (go_at_call 71;refine(q _).mono ?_;rintro e w' ⟨rfl,rfl⟩)
    go_ret
    exact⟨bP (by rw[<-g.out,j.out,i.out];rfl),u⟩
   | true=>
    go_wp2_with (first|(go_at_call 71;refine(q _).mono ?_;rintro e w' ⟨rfl,rfl⟩)|(go_at_call 100;refine(z _ ((ao _ _).alloc (am _) _)).mono ?_;rintro e c ⟨rfl,v⟩;have x:aj w c:=u.trans (v.mono (by have:=d.size;simp;omega));clear v;cases F))
    ·go_ret
     exact⟨bP (by rw[<-g.out,j.out,i.out];rfl),x⟩
    ·go_roundw
     case rel=>exact⟨k+1,by omega,by go_num,x,by rw[<-g.out,j.out,i.out];rfl⟩
     case measure=>simp[intOf];omega
  ·go_wp2_with fail
   go_ret
   refine⟨bP ?_,d⟩;rw[<-g.out,gu (by rw[l.out];omega)];rfl
theorem iM(s:ByteArray)(w:World):ak 101 #[af s] w λe w'=>e=.returned (.agg #[ab 2,ab 0,af s,ae none 0 0])/\w'=w.alloc (.cells #[ab 2,ab 0,af s,ae none 0 0] 31):=by
 go_enter func101,ntmps101;go_wp2_with fail;exact av (v:=.agg #[ab 2,ab 0,af s,ae none 0 0]) (by simp[results,results101,go_sem]) rfl ⟨rfl,rfl⟩
theorem fN(a:Option Addr)(l c:Nat)(w:World):ak 103 #[ae a l c] w λe w'=>e=.returned (.agg #[ab 4,ab 0,af ⟨#[]⟩,ae a l c])/\w'=w.alloc (.cells #[ab 4,ab 0,af ⟨#[]⟩,ae a l c] 31):=by
 go_enter func103,ntmps103;go_wp2_with fail;exact av (v:=.agg #[ab 4,ab 0,af ⟨#[]⟩,ae a l c]) (by simp[results,results103,go_sem]) rfl ⟨rfl,rfl⟩
def iJ(B N:Nat)(c:Tm N)(w:World)(e:Ending)(w':World):Prop:=
 ∃a:Tm N,e=.returned (dq N a)/\Hid (aj w w'/\In w'.heap.size w' N a/\ch (λb=>b<B\/w.heap.size<=b) N a/\ax N a N c=true)
abbrev en(n B base:Nat)(xs:List (Tm n))(v:Value)(w0 wr:World):Prop:=fl (λB w x=>In B w n x) (λP x=>ch P n x) (iq n) 4 31 B base xs v w0 wr
theorem o9(n:Nat)(x:Tm n):(iq n x).length=4:=rfl
theorem ie(s:ByteArray)(N:Nat)(a:s.size<=maxLen)(B:Nat)(w:World):In B w (N+1) (bf s N):=⟨⟨by simp[bf,dx],by simp[bf,dx],a,by simp[bf],by simp[bf]⟩,ah rfl⟩
theorem Bk(k u:Int)(N:Nat)(a:dx k)(b:dx u)(B:Nat)(w:World):In B w (N+1) (bO k u N):=⟨⟨a,b,aH _,by simp[bO],by simp[bO]⟩,ah rfl⟩
theorem oH(s:ByteArray)(N:Nat)(P:Nat->Prop):ch P (N+1) (bf s N):=ah rfl
theorem Fa{n:Nat}{w:World}{b o:Nat}{x:Tm n}{B:Nat}{w0:World}(c:In B w0 n x)(a:∀(j:Nat)(u:Value),(iq n x)[j]?=some u->w.cell? ⟨b,o+j,none⟩=some u):dC w b o n x:=by
 cases n with
 | zero=>exact c.elim
 | succ n=>exact⟨a 0 _ rfl,a 1 _ rfl,a 2 _ rfl,a 3 _ rfl⟩
theorem en.tells{B base N:Nat}{xs ys:List (Tm N)}{v:Value}{w w0 wr w':World}(p:en N B base xs v w0 wr)(x:w.heap.size<=base)(s:aB (λa b=>ax N a N b) xs ys=true)(u:∀b,b<B\/base<=b->b<wr.heap.size->w'.heap[b]?=wr.heap[b]?)(t:wr.heap.size<=w'.heap.size)(g:aj w w'):∃a c,v=ae a xs.length c/\iJ B (N+1) (df N ys) w (.returned (.agg #[ab 4,ab 0,af ⟨#[]⟩,ae a xs.length c])) w':=by
 have j:=dY N;obtain⟨a,c,f,m,n,e⟩:=p.lay j (o9 N);refine⟨a,c,f,((4,0,.empty),(a,c),xs),rfl,g,⟨⟨by simp[dx],by simp[dx],aH _,m.1,m.2⟩,?_⟩,?_,dc rfl s⟩
 ·have q:=(cG j 4 (iq N) a).2.1 _ _ _ _ e n;have r:=(cG j 4 (iq N) a).2.2.1 _ _ wr w' _ (λb l=>u b l.1 l.2) q n;have d:=(cG j 4 (iq N) a).2.2.2.1 _ _ _ _ t r;rcases d with d|⟨b,o,f,g,d⟩
  ·exact ah d
  ·exact ai ⟨b,o,f,g,λk i h=>⟨Fa (d k i h).2 (d k i h).1,(d k i h).2⟩⟩
 ·rcases e with e|⟨b,o,f,g,e⟩
  ·exact ah e
  ·exact ai ⟨b,o,f,by omega,λk i h=>(e i (aJ h)).mono λb g=>by omega⟩
theorem o8{B N:Nat}(xs:List (Tm N)){w w1 w':World}{cs:Array Value}{g L:Nat}(a:aj w w1)(r:g=w1.heap.size)(p:L=xs.length)(e:Below (w1.alloc (.cells cs 31)).heap.size (w1.alloc (.cells cs 31)) w')(q:cs.toList=xs.flatMap (iq N))(u:xs.length<=8)(i:B<=w.heap.size)(f:∀y∈xs,In B w N y):iJ B (N+1) (df N xs) w (.returned (.agg #[ab 4,ab 0,af ⟨#[]⟩,ae (some ⟨g,0,none⟩) L L])) w':=by
 have o:=fl.lit (T:=31) (k:=4) (B:=B) (base:=w1.heap.size) (dY N) xs (w0:=w1) q (o9 N) (by unfold maxLen;omega) (am _) (ao _ _) (λy d=>⟨((f y d).below (a.mono i)).mono (az i a.size),(oP (f y d)).mono λb h=>ah h⟩);have j:aj w (w1.alloc (.cells cs 31)):=a.trans (((ao _ _).alloc (am _) _).mono a.size);obtain⟨s,c,l,k⟩:=en.tells o a.size (iX _ _ λy d=>lL (f y d)) (λb _ h=>e.block b h) e.size (j.trans (e.mono j.size));injection l with m t n;subst m n p r;exact k
theorem gR{w:World}{a b c:Obj}:aj w (((w.alloc a).alloc b).alloc c)/\w.heap.size+1+1+1=(((w.alloc a).alloc b).alloc c).heap.size:=
 ⟨(((ao _ _).alloc (am _) _).alloc (by simp) _).alloc (by simp;omega) _,by simp⟩
theorem s8{w:World}{a b c d:Obj}:aj w ((((w.alloc a).alloc b).alloc c).alloc d)/\w.heap.size+1+1+1+1=((((w.alloc a).alloc b).alloc c).alloc d).heap.size:=
 ⟨((((ao _ _).alloc (am _) _).alloc (by simp) _).alloc (by simp;omega) _).alloc (by simp;omega) _,by simp⟩
theorem vA{w:World}{o:Obj}:aj w (w.alloc o).drew:=((ao _ _).alloc (am _) _).drew
theorem aO{w:World}{o:Obj}:aj w (w.alloc o):=(ao _ _).alloc (am _) _
theorem nH(s:ByteArray)(a:s.size<=8):s.size<=maxLen:=by unfold maxLen;omega
theorem zW(n:Nat)(t x:Tm (n+1))(s:ByteArray)(v:Int)(B:Nat)(w:World)(b:In B w (n+1) t)(c:In B w (n+1) x)(h:B<=w.heap.size):ak 180 #[.agg #[ab 1,ab t.1.1,ab t.1.2.1,af t.1.2.2,ae t.2.1.1 t.2.2.length t.2.1.2,ab x.1.1,ab x.1.2.1,af x.1.2.2,ae x.2.1.1 x.2.2.length x.2.1.2,af s,ab v]] w (iJ B (n+2) (df (n+1) [bf mL n,t,x]) w):=by
 have f:Hid (∀e∈[bf mL n,t,x],In B w (n+1) e):=λe d=>by
  simp only[cm,gA,gE]at d;rcases d with rfl|rfl|rfl
  ·exact ie _ _ (nH _ (by decide)) _ _
  ·exact b
  ·exact c
 clear b c;go_enter func180,ntmps180;go_wp2_with fail
 go_region_held3 (λa=>(a.cell? ⟨w.heap.size,1,none⟩=some (ab t.1.1)/\a.cell? ⟨w.heap.size,2,none⟩=some (ab t.1.2.1)/\a.cell? ⟨w.heap.size,3,none⟩=some (af t.1.2.2)/\a.cell? ⟨w.heap.size,4,none⟩=some (ae t.2.1.1 t.2.2.length t.2.1.2))/\
     (a.cell? ⟨w.heap.size,5,none⟩=some (ab x.1.1)/\a.cell? ⟨w.heap.size,6,none⟩=some (ab x.1.2.1)/\a.cell? ⟨w.heap.size,7,none⟩=some (af x.1.2.2)/\a.cell? ⟨w.heap.size,8,none⟩=some (ae x.2.1.1 x.2.2.length x.2.1.2))) (first|(go_keep;done)|(simp[go_sem];done))
  ((first|(go_at_call 101;refine(iM _ _).mono ?_;rintro g i ⟨rfl,rfl⟩)|(go_at_call 103;refine(fN _ _ _ _).mono ?_;rintro g i ⟨rfl,rfl⟩)))
 go_wp2_with fail;exact av (v:=.agg #[ab 4,ab 0,af ⟨#[]⟩,ae (some ⟨w.heap.size+1+1+1,0,none⟩) 3 3]) (by simp[results,results180,go_sem]) rfl (o8 [bf mL n,t,x] gR.1 gR.2 rfl vA rfl (by simp) h f)
theorem zV(n:Nat)(t x:Tm (n+1))(s:ByteArray)(v:Int)(B:Nat)(w:World)(b:In B w (n+1) t)(g:B<=w.heap.size):ak 180 #[.agg #[ab 3,ab t.1.1,ab t.1.2.1,af t.1.2.2,ae t.2.1.1 t.2.2.length t.2.1.2,ab x.1.1,ab x.1.2.1,af x.1.2.2,ae x.2.1.1 x.2.2.length x.2.1.2,af s,ab v]] w (iJ B (n+2) (df (n+1) [bf mK n,t]) w):=by
 have e:Hid (∀d∈[bf mK n,t],In B w (n+1) d):=λd c=>by
  simp only[cm,gA,gE]at c;rcases c with rfl|rfl
  ·exact ie _ _ (nH _ (by decide)) _ _
  ·exact b
 clear b;go_enter func180,ntmps180;go_wp2_with fail
 go_region_held3 (λa=>a.cell? ⟨w.heap.size,1,none⟩=some (ab t.1.1)/\a.cell? ⟨w.heap.size,2,none⟩=some (ab t.1.2.1)/\a.cell? ⟨w.heap.size,3,none⟩=some (af t.1.2.2)/\a.cell? ⟨w.heap.size,4,none⟩=some (ae t.2.1.1 t.2.2.length t.2.1.2)) (first|(go_keep;done)|(simp[go_sem];done))
  ((first|(go_at_call 101;refine(iM _ _).mono ?_;rintro f h ⟨rfl,rfl⟩)|(go_at_call 103;refine(fN _ _ _ _).mono ?_;rintro f h ⟨rfl,rfl⟩)))
 go_wp2_with fail;exact av (v:=.agg #[ab 4,ab 0,af ⟨#[]⟩,ae (some ⟨w.heap.size+1+1+1,0,none⟩) 2 2]) (by simp[results,results180,go_sem]) rfl (o8 [bf mK n,t] gR.1 gR.2 rfl vA rfl (by simp) g e)
theorem zX(n:Nat)(K:Int)(g:(K==1)=false)(h:(K==2)=false)(i:(K==3)=false)(t x:Tm (n+1))(s:ByteArray)(v:Int)(B:Nat)(w:World)(e:B<=w.heap.size):ak 180 #[.agg #[ab K,ab t.1.1,ab t.1.2.1,af t.1.2.2,ae t.2.1.1 t.2.2.length t.2.1.2,ab x.1.1,ab x.1.2.1,af x.1.2.2,ae x.2.1.1 x.2.2.length x.2.1.2,af s,ab v]] w (iJ B (n+2) (df (n+1) [bf lR n]) w):=by
 have c:Hid (∀b∈[bf lR n],In B w (n+1) b):=λb a=>by
  simp only[cm,gA,gE]at a;subst a;exact ie _ _ (nH _ (by decide)) _ _
 go_enter func180,ntmps180;go_wp2_with (first|(go_at_call 101;refine(iM _ _).mono ?_;rintro d f ⟨rfl,rfl⟩)|(go_at_call 103;refine(fN _ _ _ _).mono ?_;rintro d f ⟨rfl,rfl⟩));exact av (v:=.agg #[ab 4,ab 0,af ⟨#[]⟩,ae (some ⟨w.heap.size+1+1+1,0,none⟩) 1 1]) (by simp[results,results180,go_sem]) rfl (o8 [bf lR n] gR.1 gR.2 rfl aO rfl (by simp) e c)
theorem wT(n:Nat)(t x:Tm (n+1))(s:ByteArray)(v:Int)(c:dx v)(b:s.size<=maxLen)(B:Nat)(w:World)(d:In B w (n+1) x)(i:B<=w.heap.size):ak 180 #[.agg #[ab 2,ab t.1.1,ab t.1.2.1,af t.1.2.2,ae t.2.1.1 t.2.2.length t.2.1.2,ab x.1.1,ab x.1.2.1,af x.1.2.2,ae x.2.1.1 x.2.2.length x.2.1.2,af s,ab v]] w (iJ B (n+2) (df (n+1) [bf je n,bf s n,x,bO 5 v n]) w):=by
 have g:Hid (∀f∈[bf je n,bf s n,x,bO 5 v n],In B w (n+1) f):=λf e=>by
  simp only[cm,gA,gE]at e;rcases e with rfl|rfl|rfl|rfl
  ·exact ie _ _ (nH _ (by decide)) _ _
  ·exact ie _ _ b _ _
  ·exact d
  ·exact Bk _ _ _ (by simp[dx]) c _ _
 clear d b c;go_enter func180,ntmps180;go_wp2_with fail
 go_region_held3 (λa=>(a.cell? ⟨w.heap.size,9,none⟩=some (af s)/\a.cell? ⟨w.heap.size,10,none⟩=some (ab v))/\
     (a.cell? ⟨w.heap.size,5,none⟩=some (ab x.1.1)/\a.cell? ⟨w.heap.size,6,none⟩=some (ab x.1.2.1)/\a.cell? ⟨w.heap.size,7,none⟩=some (af x.1.2.2)/\a.cell? ⟨w.heap.size,8,none⟩=some (ae x.2.1.1 x.2.2.length x.2.1.2))) (first|(go_keep;done)|(simp[go_sem];done))
  ((first|(go_at_call 101;refine(iM _ _).mono ?_;rintro h j ⟨rfl,rfl⟩)|(go_at_call 103;refine(fN _ _ _ _).mono ?_;rintro h j ⟨rfl,rfl⟩)))
 all_goals go_wp2_with fail
 all_goals exact av (v:=.agg #[ab 4,ab 0,af ⟨#[]⟩,ae (some ⟨w.heap.size+1+1+1+1,0,none⟩) 4 4]) (by simp[results,results180,go_sem]) rfl (o8 [bf je n,bf s n,x,bO 5 v n] s8.1 s8.2 rfl vA rfl (by simp) i g)
theorem Cq(n:Nat)(a:Ac (n+1))(B:Nat)(w:World)(o:iE (n+1) B w a)(c:B<=w.heap.size):ak 180 #[.agg (f9 (n+1) a).toArray] w (iJ B (n+2) (cg n a) w):=by
 obtain⟨b,⟨t,f⟩,d,e⟩:=a;obtain⟨p,j,k,l,m⟩:=o;unfold cg;by_cases g:b=1
 ·subst g;exact zW n t f d e B w j k c
 by_cases h:b=2
 ·subst h;exact wT n t f d e m l B w k c
 by_cases i:b=3
 ·subst i;exact zV n t f d e B w j c
 ·simp only[g,h,i,if_false];exact zX n b (by simpa using g) (by simpa using h) (by simpa using i) t f d e B w c
theorem Ep{B N base:Nat}(xs ys:List (Tm N)){w w1 w':World}{cs:Array Value}{g L:Nat}(m:base<=w1.heap.size)(p:g=w1.heap.size)(i:L=xs.length)(n:w.heap.size<=base)(s:∀b,b<B\/base<=b->b<(w1.alloc (.cells cs 31)).heap.size->w'.heap[b]?=(w1.alloc (.cells cs 31)).heap[b]?)(r:(w1.alloc (.cells cs 31)).heap.size<=w'.heap.size)(l:aj w w')(o:cs.toList=xs.flatMap (iq N))(u:xs.length<=8)(j:∀y∈xs,In w1.heap.size w1 N y/\ch (λb=>b<B\/base<=b) N y)(q:aB (λa b=>ax N a N b) xs ys=true):iJ B (N+1) (df N ys) w (.returned (.agg #[ab 4,ab 0,af ⟨#[]⟩,ae (some ⟨g,0,none⟩) L L])) w':=by
 have h:=fl.lit (T:=31) (k:=4) (B:=B) (base:=base) (dY N) xs (w0:=w1) o (o9 N) (by unfold maxLen;omega) m (ao _ _) j;obtain⟨a,c,d,k⟩:=en.tells h n q s r l;injection d with e t f;subst e f i p;exact k
theorem en.slice{N B base:Nat}{xs:List (Tm N)}{v:Value}{w0 wr:World}(b:en N B base xs v w0 wr):∃a c,v=ae a xs.length c:=by
 rcases b.2.1.2 with⟨rfl,d⟩|⟨f,cap,e,rfl,_⟩
 ·exact⟨none,0,by rw[d]⟩
 ·exact⟨_,_,rfl⟩
theorem uh(N:Nat)(x:Tm N):∀u∈iq N x,u.oneCell'=true:=by
 intro u a;simp[iq,vv]at a;rcases a with rfl|rfl|rfl|rfl<;>rfl
theorem zY(w:World)(x:Nd){g:Nat}(c:g=w.heap.size):∀j u,(vv x)[j]?=some u->(w.alloc (.cells #[ab x.1.1,ab x.1.2.1,af x.1.2.2,ae x.2.1 x.2.2.1 x.2.2.2] 31)).cell? ((⟨g,0,none⟩:Addr).add j)=some u:=by
 subst c;intro j u a;rw[fm];have:j<4:=(aS.1 a).1;have b:j=0\/j=1\/j=2\/j=3:=by omega
 rcases b with rfl|rfl|rfl|rfl<;>simp[vv]at a<;>subst a<;>simp[go_sem]
theorem en.app{N B base k:Nat}{xs:List (Tm N)}{v:Value}{w0 wr a w4:World}{g c:Nat}(h:en N B base xs v w0 wr)(q:xs.length=k)(i:B<=base)(n:base<=wr.heap.size)(f:aj wr a)(d:Tm N)(l:In a.heap.size a N d)(j:ch (λb=>b<B\/wr.heap.size<=b) N d){o:Obj}(r:w4.ownsRow base 31 4 (ae (some ⟨g,0,none⟩) (k+1) c) (k+1) (xs.flatMap (iq N)++iq N d))(p:(a.alloc o).grownBy w4 v.ownBlock)(m:v.ownBlock=some g\/g=a.heap.size+1):en N B base (xs++ [d]) (ae (some ⟨g,0,none⟩) (k+1) c) w0 w4:=by
 subst q;have e:aj a (a.alloc o):=(ao _ _).alloc (am _) _;exact fl.step (dY N) h i n (f.trans (e.mono f.size)) d ((l.below e).mono e.size) j r p (by simpa using m)
theorem en.own{N B base k:Nat}{xs:List (Tm N)}{v:Value}{w0 wr b:World}(c:en N B base xs v w0 wr)(d:xs.length=k)(a:aj wr b)(o:Obj):(b.alloc o).ownsRow base 31 4 v k (xs.flatMap (iq N)):=by
 subst d;exact dT c.2.1 (a.trans (((ao _ _).alloc (am _) _).mono a.size))
theorem gG(w:World)(o:Obj){b:Nat}(a:b<w.heap.size):(w.alloc o).heap[b]?=w.heap[b]? :=(cR w o none).block b a (by simp)
theorem au{w:World}{q:Nat}{cs:Array Value}{t:TypeId}(a:w.heap[q]?=some (.cells cs t))(j:Nat):w.cell? ⟨q,j,none⟩=cs[j]? :=by simp[World.cell?,a]
theorem cV{w:World}{q:Nat}{cs:Array Value}{t:TypeId}(a:w.heap[q]?=some (.cells cs t))(j:Nat):w.frozen? ⟨q,j,none⟩=false:=by simp[World.frozen?,a]
theorem km(w:World)(a c:Obj):((w.alloc a).alloc c).heap[w.heap.size]?=some a/\((w.alloc a).alloc c).heap[w.heap.size+1]?=some c:=by
 have f:=(gG (w.alloc a) c (b:=w.heap.size) (by simp)).trans (aA w a);have d:=aA (w.alloc a) c;have e:(w.alloc a).heap.size=w.heap.size+1:=by simp
 rw[e]at d;exact⟨f,d⟩
theorem zB{w:World}{r o:Nat}{v0 v1 v2 v3:Value}{B base:Nat}(d:B<=r)(e:r<base){W:World}(a:aj W w):∀b,b<B\/base<=b->b<W.heap.size->(dd w r o v0 v1 v2 v3).heap[b]?=W.heap[b]? :=λb f c=>(aX (by omega) _ _ _ _).trans (a.block b c)
theorem dJ{w W:World}{r o:Nat}{v0 v1 v2 v3:Value}(a:aj w W)(d:w.heap.size<=r):aj w (dd W r o v0 v1 v2 v3):=
 ⟨a.os,a.tape,a.output,az a.size (dA (br _ _ _ _).symm),λb c=>(aX (by omega) _ _ _ _).trans (a.block b c)⟩
theorem en.tup{N B base k:Nat}{xs:List (Tm N)}{j:Option Addr}{l:Nat}{w0 wr:World}(q:en N B base xs (ae j k l) w0 wr):In wr.heap.size wr (N+1) ((4,0,.empty),(j,l),xs)/\ch (λb=>b<B\/base<=b) (N+1) ((4,0,.empty),(j,l),xs):=by
 obtain⟨s,c,a,m,r,e⟩:=q.lay (dY N) (o9 N);injection a with n t p;subst n p;refine⟨⟨⟨by simp[dx],by simp[dx],aH _,m.1,m.2⟩,?_⟩,?_⟩
 ·rcases r with d|⟨b,o,a,i,d⟩
  ·exact ah d
  ·exact ai ⟨b,o,a,i,λh g f=>⟨Fa (d h g f).2 (d h g f).1,(d h g f).2⟩⟩
 ·rcases e with e|⟨b,o,a,i,e⟩
  ·exact ah e
  ·exact ai ⟨b,o,a,i,λh g f=>e g (aJ f)⟩
theorem yP{n B base:Nat}{s m x:Tm (n+1)}{w wr w1:World}{c:Tm (n+3)}{ys:List (Tm (n+2))}(k:B<=w.heap.size)(p:In B w (n+1) s)(o:In B w (n+1) m)(q:In B w (n+1) x)(l:aj w wr)(j:In wr.heap.size wr (n+3) c/\ch (λb=>b<B\/base<=b) (n+3) c)(u:ax (n+3) c (n+3) (df (n+2) ys)=true)(g:aj wr w1):(∀y∈[bf Lw (n+2),aT (n+3) (n+1) s,aT (n+3) (n+1) m,c,aT (n+3) (n+1) x],In w1.heap.size w1 (n+3) y/\ch (λb=>b<B\/base<=b) (n+3) y)/\ aB (λa b=>ax (n+3) a (n+3) b) [bf Lw (n+2),aT (n+3) (n+1) s,aT (n+3) (n+1) m,c,aT (n+3) (n+1) x] [bf Lw (n+2),aT (n+3) (n+1) s,aT (n+3) (n+1) m,df (n+2) ys,aT (n+3) (n+1) x]=true:=by
 have e:∀t:Tm (n+1),In B w (n+1) t->In w1.heap.size w1 (n+3) (aT (n+3) (n+1) t)/\ch (λb=>b<B\/base<=b) (n+3) (aT (n+3) (n+1) t):=λt h=>by
  have i:=oS (n+3) (n+1) (by omega) t B w h;have d:=l.trans (g.mono l.size);exact⟨(i.below (d.mono k)).mono (az k d.size),(oP i).mono λb d=>ah d⟩
 have f:∀t:Tm (n+1),In B w (n+1) t->ax (n+3) (aT (n+3) (n+1) t) (n+3) (aT (n+3) (n+1) t)=true:=λt h=>lL (oS (n+3) (n+1) (by omega) t B w h);refine⟨λy r=>?_,by simp only[aB,f s p,f m o,f x q,u,dU,iu]⟩;simp only[cm,gA,gE]at r;rcases r with rfl|rfl|rfl|rfl|rfl
 ·exact⟨ie _ _ (nH _ (by decide)) _ _,oH _ _ _⟩
 ·exact e s p
 ·exact e m o
 ·exact⟨(j.1.below g).mono g.size,j.2⟩
 ·exact e x q
theorem gq(N n:Nat)(x:Tm (n+1)):iq (N+1) (aT (N+1) (n+1) x)=iq (n+1) x:=by
 unfold iq;rw[Mv]
theorem yO(n:Nat)(s m x:Tm (n+1))(a:Option Addr)(b k:Nat)(xs:List (Tm (n+2)))(c:xs.length=k):[ab 2,ab 0,af ⟨#[111,110]⟩,ae none 0 0,ab s.1.1,ab s.1.2.1,af s.1.2.2,ae s.2.1.1 s.2.2.length s.2.1.2,ab m.1.1,ab m.1.2.1,af m.1.2.2,ae m.2.1.1 m.2.2.length m.2.1.2,ab 4,ab 0,af ⟨#[]⟩,ae a k b,ab x.1.1,ab x.1.2.1,af x.1.2.2,ae x.2.1.1 x.2.2.length x.2.1.2]=
     List.flatMap (iq (n+3)) [bf Lw (n+2),aT (n+3) (n+1) s,aT (n+3) (n+1) m,((4,0,.empty),(a,b),xs),aT (n+3) (n+1) x]:=by
 show _=iq (n+3) (bf Lw (n+2))++(iq (n+3) (aT (n+3) (n+1) s)++(iq (n+3) (aT (n+3) (n+1) m)++(iq (n+3) ((4,0,.empty),(a,b),xs)++(iq (n+3) (aT (n+3) (n+1) x)++ []))));rw[gq,gq,gq,<-c];rfl
theorem lY{a β:Type}(f:a->β)(p:List a)(k:Nat)(x:a)(b:p[k]?=some x):(p.take (k+1)).map f=(p.take k).map f++ [f x]:=by
 rw[du,b];simp
def P5(n B:Nat)(p:List (Ac (n+1)))(w0:World)(base k:Nat)(v:Value)(wr:World):Prop:=
 ∃a,a.length=k/\en (n+2) B base a v w0 wr/\aB (λc b=>ax (n+2) c (n+2) b) a ((p.take k).map (cg n))=true
theorem tR(n:Nat)(s m x:Tm (n+1))(p:List (Ac (n+1)))(len:Nat)(ay:Hid (p.length=len))(bv:len<=8)(a:Option Addr)(pc:Nat)(B:Nat)(w:World)(bd:Hid (In B w (n+1) s))(a9:Hid (In B w (n+1) m))(be:Hid (In B w (n+1) x))(bb:Hid (p8 B w 11 (f9 (n+1)) (iE (n+1) B w) a p))(ad:B<=w.heap.size)(Y:Tm (n+4))(a3:Hid (Y=dE n ((s,m,x),(a,pc),p))):ak 142 #[.agg #[ab s.1.1,ab s.1.2.1,af s.1.2.2,ae s.2.1.1 s.2.2.length s.2.1.2,ab m.1.1,ab m.1.2.1,af m.1.2.2,ae m.2.1.1 m.2.2.length m.2.1.2,ae a len pc,ab x.1.1,ab x.1.2.1,af x.1.2.2,ae x.2.1.1 x.2.2.length x.2.1.2]] w (iJ B (n+4) Y w):=by
 obtain⟨bf,ar,aA,aC,aD⟩:=bR gm;have G:=ap (⟨ar,aA,aC,aD⟩:_/\_/\_/\_);clear ar aA aC aD;go_enter func142,ntmps142;go_wp2_with fail;have F:=ap (km w (.cells #[ab s.1.1,ab s.1.2.1,af s.1.2.2,ae s.2.1.1 s.2.2.length s.2.1.2,ab m.1.1,ab m.1.2.1,af m.1.2.2,ae m.2.1.1 m.2.2.length m.2.1.2,ae a len pc,ab x.1.1,ab x.1.2.1,af x.1.2.2,ae x.2.1.1 x.2.2.length x.2.1.2] 162) (.cells #[ab 0,ab 0,af ⟨#[]⟩,ae none 0 0] 31));generalize O:(w.alloc _).alloc _=z;rw[O]at F;have J:Hid (aj w z/\z.heap.size=w.heap.size+2):=by
  subst O;exact⟨((ao _ _).alloc (am _) _).alloc (by simp) _,by simp⟩
 have S:Hid (∀wr,Below (w.heap.size+2) z wr->aj w wr):=λwr y=>J.out.1.trans (y.mono (by omega));go_loopw [3,9] (λv R wr=>∃(k:Nat)(aF:Value),k<=len/\R=ab k/\aF=v/\Hid (P5 n B p z (w.heap.size+2) k aF wr)) (λ_ R _=>len-(intOf R).toNat)
 case atStart=>exact⟨0,_,by omega,rfl,rfl,[],rfl,fl.nil _,rfl⟩
 case round=>
  obtain⟨k,v,bw,rfl,rfl,W⟩:=hrel;obtain⟨u,t,j,L⟩:∃u:List (Tm (n+2)),Hid (u.length=k)/\Hid (en (n+2) B (w.heap.size+2) u v z wr)/\Hid (aB (λa b=>ax (n+2) a (n+2) b) u ((p.take k).map (cg n))=true):=W.out;clear W;have E:=ap (S.out wr j.out.1);have a6:w.heap.size+2<=wr.heap.size:=by have:=j.out.1.size;have:=J.out.2;omega
  by_cases a8:k<len
  ·obtain⟨e,Q⟩:∃e,p[k]?=some e:=⟨p[k]'(by rw[ay.out];exact a8),aI _⟩;have aK:=ap (lY (cg n) p k e Q);obtain⟨bg,po,rfl,bC,⟨bh,⟨bi,bk,bl,bm⟩,⟨bn,bo,bp,bq⟩,bs,bj⟩,an⟩:=(ky (fJ (n+1)) (E.out.mono ad) bb.out).ac k e Q;have ag:B<=wr.heap.size:=by omega
   have T:Hid (∀w1,aj wr w1->ak 180 #[.agg #[ab e.1,ab e.2.1.1.1.1,ab e.2.1.1.1.2.1,af e.2.1.1.1.2.2,ae e.2.1.1.2.1.1 e.2.1.1.2.2.length e.2.1.1.2.1.2,ab e.2.1.2.1.1,ab e.2.1.2.1.2.1,af e.2.1.2.1.2.2,ae e.2.1.2.2.1.1 e.2.1.2.2.2.length e.2.1.2.2.1.2,af e.2.2.1,ab e.2.2.2]] w1 (iJ B (n+2) (cg n e) w1)):=
    λw1 aE=>Cq n e B w1 ((fJ (n+1)).below (aE.mono ag) an) (az ag aE.size)
   clear an Q;generalize cg n e=bt at*;have bx:(0:Int)<=(k:Int):=by omega
   have bz:(k:Int)<(len:Int):=by omega
   have bD:bg<wr.heap.size:=by omega
   obtain⟨l,q,C⟩:=j.out.slice;rw[t.out]at C;subst C;go_wp2_with fail;refine(T.out _ aO).mono ?_;rintro N D ⟨i,rfl,H⟩;have K:Hid (aj wr D):=aO.trans (H.out.1.mono (by simp));have Z:dq (n+2) i=.agg #[ab i.1.1,ab i.1.2.1,af i.1.2.2,ae i.2.1.1 i.2.2.length i.2.1.2]:=rfl;rw[Z];have aM:=λ(o:Obj)(g c:Nat)(w4:World) ba a7 a4=>ap (j.out.app t.out (by omega) a6 K.out i H.out.2.1 (H.out.2.2.1.mono λb a5=>by simp at a5;omega) (o:=o) (g:=g) (c:=c) (w4:=w4) ba a7 a4);have bu:wr.heap.size<=D.heap.size:=K.out.size;clear Z T bh bi bk bl bm bn bo bp bq bs bj;go_wp2_with (at_builtin;refine wpList_append_lies _ rfl _ _ 29 rfl (w.heap.size+2) 31 bf _ 4 56 underlying29 G.out.1 G.out.2.1 G.out.2.2.1 G.out.2.2.2 rfl (by decide) (ae l k q) k (u.flatMap (iq (n+2))) (by simp[Act.eval]) (j.out.own t.out K.out _) ⟨D.heap.size,0,none⟩ 1 1 (iq (n+2) i) (by simp[Act.eval]) rfl (zY D (gj (n+2) i) rfl) (uh _ _) (by decide) (by unfold maxLen;omega) (by omega) (by simp;omega) (D.heap.size+1) (by simp) ?_;intro a1 M w4 aw al ai bB;have aL:=aM _ a1 M w4 aw al ai;clear aw al ai);go_roundw
   case rel=>exact⟨k+1,_,by omega,by go_num,rfl,u++ [i],by simp[t.out],aL.out,by rw[aK.out];exact iY _ _ _ _ _ L.out H.out.2.2.2⟩
   case measure=>simp[intOf];omega
  ·obtain rfl:k=len:=by omega
   obtain⟨l,q,C⟩:=j.out.slice;rw[t.out]at C;subst C;have f:=ap (And.intro ((j.out.1.block w.heap.size (by omega)).trans F.out.1) ((j.out.1.block (w.heap.size+1) (by omega)).trans F.out.2));have aQ:wr.cell? ⟨w.heap.size,0,none⟩=some (ab s.1.1):=au f.out.1 0;have aR:wr.cell? ⟨w.heap.size,1,none⟩=some (ab s.1.2.1):=au f.out.1 1;have aV:wr.cell? ⟨w.heap.size,2,none⟩=some (af s.1.2.2):=au f.out.1 2;have aW:wr.cell? ⟨w.heap.size,3,none⟩=some (ae s.2.1.1 s.2.2.length s.2.1.2):=au f.out.1 3;have M:wr.cell? ⟨w.heap.size,4,none⟩=some (ab m.1.1):=au f.out.1 4;have aX:wr.cell? ⟨w.heap.size,5,none⟩=some (ab m.1.2.1):=au f.out.1 5;have aY:wr.cell? ⟨w.heap.size,6,none⟩=some (af m.1.2.2):=au f.out.1 6;have aZ:wr.cell? ⟨w.heap.size,7,none⟩=some (ae m.2.1.1 m.2.2.length m.2.1.2):=au f.out.1 7;have a0:wr.cell? ⟨w.heap.size,9,none⟩=some (ab x.1.1):=au f.out.1 9;have aS:wr.cell? ⟨w.heap.size,10,none⟩=some (ab x.1.2.1):=au f.out.1 10;have aT:wr.cell? ⟨w.heap.size,11,none⟩=some (af x.1.2.2):=au f.out.1 11;have aU:wr.cell? ⟨w.heap.size,12,none⟩=some (ae x.2.1.1 x.2.2.length x.2.1.2):=au f.out.1 12;have d0:wr.cell? ⟨w.heap.size+1,0,none⟩=some (ab 0):=au f.out.2 0;have d1:wr.cell? ⟨w.heap.size+1,1,none⟩=some (ab 0):=au f.out.2 1;have d2:wr.cell? ⟨w.heap.size+1,2,none⟩=some (af ⟨#[]⟩):=au f.out.2 2;have d3:wr.cell? ⟨w.heap.size+1,3,none⟩=some (ae none 0 0):=au f.out.2 3;have f0:=λI=>cV f.out.2 I;have bc:w.heap.size<wr.heap.size:=by omega
   have A:w.heap.size+1<wr.heap.size:=by omega
   have U:Hid (∀d,aj wr d->(d.cell? ⟨w.heap.size,0,none⟩=some (ab s.1.1)/\d.cell? ⟨w.heap.size,1,none⟩=some (ab s.1.2.1)/\d.cell? ⟨w.heap.size,2,none⟩=some (af s.1.2.2)/\d.cell? ⟨w.heap.size,3,none⟩=some (ae s.2.1.1 s.2.2.length s.2.1.2))/\
     (d.cell? ⟨w.heap.size,4,none⟩=some (ab m.1.1)/\d.cell? ⟨w.heap.size,5,none⟩=some (ab m.1.2.1)/\d.cell? ⟨w.heap.size,6,none⟩=some (af m.1.2.2)/\d.cell? ⟨w.heap.size,7,none⟩=some (ae m.2.1.1 m.2.2.length m.2.1.2))/\
     (d.cell? ⟨w.heap.size,9,none⟩=some (ab x.1.1)/\d.cell? ⟨w.heap.size,10,none⟩=some (ab x.1.2.1)/\d.cell? ⟨w.heap.size,11,none⟩=some (af x.1.2.2)/\d.cell? ⟨w.heap.size,12,none⟩=some (ae x.2.1.1 x.2.2.length x.2.1.2))):=λd y=>by
    have h:=λo=>aq y w.heap.size o bc;exact⟨⟨(h _).trans aQ,(h _).trans aR,(h _).trans aV,(h _).trans aW⟩,⟨(h _).trans M,(h _).trans aX,(h _).trans aY,(h _).trans aZ⟩,(h _).trans a0,(h _).trans aS,(h _).trans aT,(h _).trans aU⟩
   have X:Hid True:=trivial;have aH:=λ(w1:World)(a2:aj wr w1)=>ap (yP (base:=w.heap.size+2) (ys:=p.map (cg n)) (w1:=w1) ad bd.out a9.out be.out E.out j.out.tup (dc rfl (by have y:=L.out;rw[bA (by rw[ay.out];omega)]at y;exact y)) a2);have aJ:=ap t.out;clear O j t L f S J F;go_wp2_with fail
   go_region_held3 (λd=>(d.cell? ⟨w.heap.size,0,none⟩=some (ab s.1.1)/\d.cell? ⟨w.heap.size,1,none⟩=some (ab s.1.2.1)/\d.cell? ⟨w.heap.size,2,none⟩=some (af s.1.2.2)/\d.cell? ⟨w.heap.size,3,none⟩=some (ae s.2.1.1 s.2.2.length s.2.1.2))/\
       (d.cell? ⟨w.heap.size,4,none⟩=some (ab m.1.1)/\d.cell? ⟨w.heap.size,5,none⟩=some (ab m.1.2.1)/\d.cell? ⟨w.heap.size,6,none⟩=some (af m.1.2.2)/\d.cell? ⟨w.heap.size,7,none⟩=some (ae m.2.1.1 m.2.2.length m.2.1.2))/\
       (d.cell? ⟨w.heap.size,9,none⟩=some (ab x.1.1)/\d.cell? ⟨w.heap.size,10,none⟩=some (ab x.1.2.1)/\d.cell? ⟨w.heap.size,11,none⟩=some (af x.1.2.2)/\d.cell? ⟨w.heap.size,12,none⟩=some (ae x.2.1.1 x.2.2.length x.2.1.2))) (first|(go_keep;done)|exact U.out _ r.out|(refine U.out _ ?_;go_grown;done))
    ((first
     | (go_at_call 101;refine(iM _ _).mono ?_;rintro N w1 ⟨rfl,rfl⟩)
     | (go_at_call 103;have aP:=X;clear X;refine(fN _ _ _ _).mono ?_;rintro N w1 ⟨rfl,rfl⟩)
     | (go_at_call 103;clear aP;refine(fN _ _ _ _).mono ?_;rintro N aG ⟨rfl,P⟩;have r:=ap (show aj wr aG by rw[P];go_grown);have aN:=ap P;clear P;replace d0:=(aq r.out _ _ A).trans d0;replace d1:=(aq r.out _ _ A).trans d1;replace d2:=(aq r.out _ _ A).trans d2;replace d3:=(aq r.out _ _ A).trans d3;replace f0:=λI=>(gH r.out _ I A).trans (f0 I))))
   go_wp2_with fail;refine av (v:=.agg #[ab 4,ab 0,af ⟨#[]⟩,ae (some ⟨wr.heap.size+1+1,0,none⟩) 5 5]) (by simp[results,results142,go_sem,d0,d1,d2,d3]) rfl ?_;rw[a3.out];have ah:aj wr ((wr.alloc (.cells #[ab 2,ab 0,af ⟨#[111,110]⟩,ae none 0 0] 31)).alloc (.cells #[ab 4,ab 0,af ⟨#[]⟩,ae l k q] 31)):=by go_grown
   have aa:Below (((wr.alloc (.cells #[ab 2,ab 0,af ⟨#[111,110]⟩,ae none 0 0] 31)).alloc (.cells #[ab 4,ab 0,af ⟨#[]⟩,ae l k q] 31)).alloc (.cells #[ab 2,ab 0,af ⟨#[111,110]⟩,ae none 0 0,ab s.1.1,ab s.1.2.1,af s.1.2.2,ae s.2.1.1 s.2.2.length s.2.1.2,ab m.1.1,ab m.1.2.1,af m.1.2.2,ae m.2.1.1 m.2.2.length m.2.1.2,ab 4,ab 0,af ⟨#[]⟩,ae l k q,ab x.1.1,ab x.1.2.1,af x.1.2.2,ae x.2.1.1 x.2.2.length x.2.1.2] 31)).heap.size (((wr.alloc (.cells #[ab 2,ab 0,af ⟨#[111,110]⟩,ae none 0 0] 31)).alloc (.cells #[ab 4,ab 0,af ⟨#[]⟩,ae l k q] 31)).alloc (.cells #[ab 2,ab 0,af ⟨#[111,110]⟩,ae none 0 0,ab s.1.1,ab s.1.2.1,af s.1.2.2,ae s.2.1.1 s.2.2.length s.2.1.2,ab m.1.1,ab m.1.2.1,af m.1.2.2,ae m.2.1.1 m.2.2.length m.2.1.2,ab 4,ab 0,af ⟨#[]⟩,ae l k q,ab x.1.1,ab x.1.2.1,af x.1.2.2,ae x.2.1.1 x.2.2.length x.2.1.2] 31)) aG:=by rw[aN.out];go_grown
   have V:=aH _ ah;exact Ep (B:=B) (base:=w.heap.size+2) _ _ (by have:=ah.size;omega) (by simp) rfl (by omega) (zB (by omega) (by omega) aa) (az aa.size (dA (br _ _ _ _).symm)) (dJ (E.out.trans (r.out.mono E.out.size)) (by omega)) (yO n s m x l q k u aJ.out) (by show 5<=8;omega) V.out.1 V.out.2
theorem vX(n:Nat)(c:Cl (n+1))(B:Nat)(w:World)(a:g8 (n+1) B w c)(e:c.2.2.length<=8)(f:B<=w.heap.size):ak 142 #[.agg (e9 (n+1) c).toArray] w (iJ B (n+4) (dE n c) w):=by
 obtain⟨⟨h,g,i⟩,⟨d,pc⟩,b⟩:=c;exact tR n h g i b b.length rfl e d pc B w a.1.1 a.1.2.1 a.1.2.2 a.2.2 f _ rfl
def P7(n B:Nat)(d:List (Tm (n+4)))(p:List (Cl (n+1)))(w0:World)(base k:Nat)(v:Value)(wr:World):Prop:=
 ∃a,a.length=k+2/\en (n+4) B base a v w0 wr/\aB (λc b=>ax (n+4) c (n+4) b) a (d++(p.take k).map (dE n))=true
theorem qC(n:Nat)(s:ByteArray)(a5:s.size<=maxLen)(p:List (Cl (n+1)))(len:Nat)(aC:Hid (p.length=len))(bt:len<=6)(aX:Hid (∀c∈p,c.2.2.length<=8))(a:Option Addr)(pc:Nat)(B:Nat)(w:World)(a4:Hid (p8 B w 13 (e9 (n+1)) (g8 (n+1) B w) a p))(aY:B<=w.heap.size)(Z:Tm (n+5))(aZ:Hid (Z=dM n (s,(a,pc),p))):ak 102 #[.agg #[af s,ae a len pc]] w (iJ B (n+5) Z w):=by
 obtain⟨a7,ay,aE,aF,aG⟩:=bR gm;have A:=ap (⟨ay,aE,aF,aG⟩:_/\_/\_/\_);clear ay aE aF aG;go_enter func102,ntmps102;go_wp2_with fail;have O:=ap (km w (.cells #[af s,ae a len pc] 151) (.cells #[ab 0,ab 0,af ⟨#[]⟩,ae none 0 0] 31)).2;have z:=ap (km w (.cells #[af s,ae a len pc] 151) (.cells #[ab 0,ab 0,af ⟨#[]⟩,ae none 0 0] 31)).1;generalize P:(w.alloc _).alloc _=e;rw[P]at O z;have j:Hid (aj w e/\e.heap.size=w.heap.size+2):=by
  subst P;exact⟨((ao _ _).alloc (am _) _).alloc (by simp) _,by simp⟩
 have aL:Hid (∀wr,Below (w.heap.size+2) e wr->aj w wr):=λwr h=>j.out.1.trans (h.mono (by omega));clear P;have aa:e.cell? ⟨w.heap.size,0,none⟩=some (af s):=au z.out 0;have ad:e.cell? ⟨w.heap.size,1,none⟩=some (ae a len pc):=au z.out 1;have aD:w.heap.size<e.heap.size:=by have:=j.out.2;omega
 have M:Hid (∀w',aj e w'->w'.cell? ⟨w.heap.size,0,none⟩=some (af s)/\w'.cell? ⟨w.heap.size,1,none⟩=some (ae a len pc)):=λw' h=>⟨(aq h _ _ aD).trans aa,(aq h _ _ aD).trans ad⟩;clear z
 go_region_held3 (λw'=>w'.cell? ⟨w.heap.size,0,none⟩=some (af s)/\w'.cell? ⟨w.heap.size,1,none⟩=some (ae a len pc)) (first|(go_keep;done)|(refine M.out _ ?_;go_grown;done))
  ((go_at_call 101;refine(iM _ _).mono ?_;rintro D w1 ⟨rfl,rfl⟩))
 have X:Hid (aB (λa b=>ax (n+4) a (n+4) b) [bf tT (n+3),bf s (n+3)] ([bf tT (n+3),bf s (n+3)]++(p.take 0).map (dE n))=true):=by
  show _=true;simp[aB,dU]
 have L:Hid (en (n+4) B (w.heap.size+2) [bf tT (n+3),bf s (n+3)] (ae (some ⟨e.heap.size+1+1,0,none⟩) 2 2) e (((e.alloc (.cells #[ab 2,ab 0,af ⟨#[98,101,104]⟩,ae none 0 0] 31)).alloc (.cells #[ab 2,ab 0,af s,ae none 0 0] 31)).alloc (.cells #[ab 2,ab 0,af ⟨#[98,101,104]⟩,ae none 0 0,ab 2,ab 0,af s,ae none 0 0] 31)).drew):=by
  have h:=fl.lit (T:=31) (k:=4) (B:=B) (base:=w.heap.size+2) (dY (n+4)) [bf tT (n+3),bf s (n+3)] (w0:=e) (w1:=(e.alloc (.cells #[ab 2,ab 0,af ⟨#[98,101,104]⟩,ae none 0 0] 31)).alloc (.cells #[ab 2,ab 0,af s,ae none 0 0] 31)) (cs:= #[ab 2,ab 0,af ⟨#[98,101,104]⟩,ae none 0 0,ab 2,ab 0,af s,ae none 0 0]) rfl (o9 _) (by show 2<=maxLen;unfold maxLen;omega) (by have:=j.out.2;simp;omega) (((ao _ _).alloc (by have:=j.out.2;omega) _).alloc (by have:=j.out.2;simp;omega) _) (λd m=>by
   simp only[cm,gA,gE]at m;rcases m with rfl|rfl
   ·exact⟨ie _ _ (nH _ (by decide)) _ _,oH _ _ _⟩
   ·exact⟨ie _ _ a5 _ _,oH _ _ _⟩)
  have D:((e.alloc (.cells #[ab 2,ab 0,af ⟨#[98,101,104]⟩,ae none 0 0] 31)).alloc (.cells #[ab 2,ab 0,af s,ae none 0 0] 31)).heap.size=e.heap.size+1+1:=by simp
  rw[D]at h;exact h.later (dY _) (by have:=j.out.2;simp;omega) (ao _ _).drew
 have N:=ap (M.out _ (show aj e (((e.alloc (.cells #[ab 2,ab 0,af ⟨#[98,101,104]⟩,ae none 0 0] 31)).alloc (.cells #[ab 2,ab 0,af s,ae none 0 0] 31)).alloc (.cells #[ab 2,ab 0,af ⟨#[98,101,104]⟩,ae none 0 0,ab 2,ab 0,af s,ae none 0 0] 31)).drew by go_grown));generalize ai:(((e.alloc _).alloc _).alloc _).drew=aT;rw[ai]at L N;have bC:aT.cell? ⟨w.heap.size,1,none⟩=some (ae a len pc):=N.out.2;clear ai M N aa ad;go_wp2_with fail;go_loopw [3,14] (λv R wr=>∃(k:Nat)(aK:Value),k<=len/\R=ab k/\aK=v/\Hid (P7 n B ([bf tT (n+3),bf s (n+3)]) p e (w.heap.size+2) k aK wr)) (λ_ R _=>len-(intOf R).toNat)
 case atStart=>exact⟨0,_,by omega,rfl,rfl,_,rfl,L.out,X.out⟩
 case round=>
  clear L X;obtain⟨k,v,bu,rfl,rfl,Y⟩:=hrel;obtain⟨t,q,i,W⟩:∃t:List (Tm (n+4)),Hid (t.length=k+2)/\Hid (en (n+4) B (w.heap.size+2) t v e wr)/\Hid (aB (λa b=>ax (n+4) a (n+4) b) t (([bf tT (n+3),bf s (n+3)])++(p.take k).map (dE n))=true):=Y.out;clear Y;have K:=ap (aL.out wr i.out.1);have an:w.heap.size+2<=wr.heap.size:=by have:=i.out.1.size;have:=j.out.2;omega
  by_cases a2:k<len
  ·obtain⟨d,m⟩:∃d,p[k]?=some d:=⟨p[k]'(by rw[aC.out];exact a2),aI _⟩;have aN:=ap (lY (dE n) p k d m);obtain⟨a8,po,rfl,bz,⟨⟨a9,ba,be,bg⟩,⟨bh,bi,bj,bk⟩,bl,bm,bb,bc,bd⟩,aw⟩:=(ky (ey (n+1)) (K.out.mono aY) a4.out).cl k d m;have ah:B<=wr.heap.size:=by omega
   have aR:=ap m
   have V:Hid (∀w1,aj wr w1->ak 142 #[.agg #[ab d.1.1.1.1,ab d.1.1.1.2.1,af d.1.1.1.2.2,ae d.1.1.2.1.1 d.1.1.2.2.length d.1.1.2.1.2,ab d.1.2.1.1.1,ab d.1.2.1.1.2.1,af d.1.2.1.1.2.2,ae d.1.2.1.2.1.1 d.1.2.1.2.2.length d.1.2.1.2.1.2,ae d.2.1.1 d.2.2.length d.2.1.2,ab d.1.2.2.1.1,ab d.1.2.2.1.2.1,af d.1.2.2.1.2.2,ae d.1.2.2.2.1.1 d.1.2.2.2.2.length d.1.2.2.2.1.2]] w1 (iJ B (n+4) (dE n d) w1)):=
    λw1 F=>vX n d B w1 ((ey (n+1)).below (F.mono ah) aw) (aX.out d (aJ aR.out)) (az ah F.size)
   clear aw m;generalize dE n d=bn at*;have bv:(0:Int)<=(k:Int):=by omega
   have bw:(k:Int)<(len:Int):=by omega
   have bB:a8<wr.heap.size:=by omega
   obtain⟨H,I,x⟩:=i.out.slice;rw[q.out]at x;subst x;go_wp2_with fail;refine(V.out _ aO).mono ?_;rintro D y ⟨f,rfl,C⟩;have J:Hid (aj wr y):=aO.trans (C.out.1.mono (by simp));have E:dq (n+4) f=.agg #[ab f.1.1,ab f.1.2.1,af f.1.2.2,ae f.2.1.1 f.2.2.length f.2.1.2]:=rfl;rw[E];have aQ:=λ(o:Obj)(g c:Nat)(w4:World) a3 a1 a0=>ap (i.out.app q.out (by omega) an J.out f C.out.2.1 (C.out.2.2.1.mono λb Q=>by simp at Q;omega) (o:=o) (g:=g) (c:=c) (w4:=w4) a3 a1 a0);have bs:wr.heap.size<=y.heap.size:=J.out.size;clear E V a9 ba be bg bh bi bj bk bl bm bb bc bd;go_wp2_with (at_builtin;refine wpList_append_lies _ rfl _ _ 29 rfl (w.heap.size+2) 31 a7 _ 4 56 underlying29 A.out.1 A.out.2.1 A.out.2.2.1 A.out.2.2.2 rfl (by decide) (ae H (k+2) I) (k+2) (t.flatMap (iq (n+4))) (by simp[Act.eval]) (i.out.own q.out J.out _) ⟨y.heap.size,0,none⟩ 1 1 (iq (n+4) f) (by simp[Act.eval]) rfl (zY y (gj (n+4) f) rfl) (uh _ _) (by decide) (by unfold maxLen;omega) (by omega) (by simp;omega) (y.heap.size+1) (by simp) ?_;intro aW aU w4 aA ar al bx;have aP:=aQ _ aW aU w4 aA ar al;clear aA ar al);go_roundw
   case rel=>exact⟨k+1,_,by omega,by go_num,rfl,t++ [f],by have:=q.out;simp;omega,aP.out,by rw[aN.out,<-mQ];exact iY _ _ _ _ _ W.out C.out.2.2.2⟩
   case measure=>simp[intOf];omega
  ·obtain rfl:k=len:=by omega
   obtain⟨H,I,x⟩:=i.out.slice;rw[q.out]at x;subst x;have r:=ap ((i.out.1.block (w.heap.size+1) (by omega)).trans O.out);have d0:wr.cell? ⟨w.heap.size+1,0,none⟩=some (ab 0):=au r.out 0;have d1:wr.cell? ⟨w.heap.size+1,1,none⟩=some (ab 0):=au r.out 1;have d2:wr.cell? ⟨w.heap.size+1,2,none⟩=some (af ⟨#[]⟩):=au r.out 2;have d3:wr.cell? ⟨w.heap.size+1,3,none⟩=some (ae none 0 0):=au r.out 3;have f0:=λG=>cV r.out G;have u:w.heap.size+1<wr.heap.size:=by omega
   have aM:=λ(aS w':World) Q F a6=>ap (en.tells (w:=w) (ys:=([bf tT (n+3),bf s (n+3)])++p.map (dE n)) (w':=w') (i.out.later (dY _) an (w1:=aS) Q) (by omega) (by have h:=W.out;rw[bA (by rw[aC.out];omega)]at h;exact h) F a6);clear r O;go_wp2_with (go_at_call 103;refine(fN _ _ _ _).mono ?_;rintro D S ⟨rfl,aH⟩;have l:=ap (show aj wr S by rw[aH];go_grown);clear aH;replace d0:=(aq l.out _ _ u).trans d0;replace d1:=(aq l.out _ _ u).trans d1;replace d2:=(aq l.out _ _ u).trans d2;replace d3:=(aq l.out _ _ u).trans d3;replace f0:=λG=>(gH l.out _ G u).trans (f0 G));refine av (v:=.agg #[ab 4,ab 0,af ⟨#[]⟩,ae H (k+2) I]) (by simp[results,results102,go_sem,d0,d1,d2,d3]) rfl ?_;rw[aZ.out];obtain⟨bo,bp,ag,U⟩:=(aM S (dd S (w.heap.size+1) 0 (ab 4) (ab 0) (af ⟨#[]⟩) (ae H (k+2) I)) l.out (zB (by omega) (by omega) (ao _ _)) (dA (br _ _ _ _).symm)).out (dJ (K.out.trans (l.out.mono K.out.size)) (by omega));rw[q.out]at ag U;injection ag with aV bq E;subst aV E;exact U
theorem rS(n:Nat)(b:Bh (n+1))(B:Nat)(w:World)(a:pE (n+1) B w b)(f:b.2.2.length<=6)(g:∀c∈b.2.2,c.2.2.length<=8)(h:B<=w.heap.size):ak 102 #[.agg (pH (n+1) b).toArray] w (iJ B (n+5) (dM n b) w):=by
 obtain⟨i,⟨e,pc⟩,d⟩:=b;exact qC n i a.1 d d.length rfl f g e pc B w a.2.2 h _ rfl
def P9(n B:Nat)(d:List (Tm (n+5)))(p:List (Bh (n+1)))(w0:World)(base k:Nat)(v:Value)(wr:World):Prop:=
 ∃a,a.length=k+1/\en (n+5) B base a v w0 wr/\aB (λc b=>ax (n+5) c (n+5) b) a (d++(p.take k).map (dM n))=true
theorem sN(n:Nat)(p:List (Bh (n+1)))(len:Nat)(ar:Hid (p.length=len))(a9:len<=7)(Y:Hid (∀b∈p,b.2.2.length<=6/\∀c∈b.2.2,c.2.2.length<=8))(a:Option Addr)(pc:Nat)(B:Nat)(w:World)(aX:Hid (gh (n+1) B w a p))(aR:B<=w.heap.size)(W:Tm (n+6))(aS:Hid (W=bW n p)):ak 66 #[ae a len pc] w (iJ B (n+6) W w):=by
 obtain⟨aZ,al,aw,ay,aC⟩:=bR gm;have y:=ap (⟨al,aw,ay,aC⟩:_/\_/\_/\_);clear al aw ay aC;go_enter func66,ntmps66;go_wp2_with (go_at_call 101;refine(iM _ _).mono ?_;rintro A w1 ⟨rfl,rfl⟩);have K:=ap (aA w (.cells #[ab 0,ab 0,af ⟨#[]⟩,ae none 0 0] 31));have S:Hid (aB (λa b=>ax (n+5) a (n+5) b) [bf nP (n+4)] ([bf nP (n+4)]++(p.take 0).map (dM n))=true):=by
  show _=true;simp[aB,dU]
 generalize L:w.alloc (.cells #[ab 0,ab 0,af ⟨#[]⟩,ae none 0 0] 31)=e;rw[L]at K;have s:Hid (aj w e/\e.heap.size=w.heap.size+1):=by
  subst L;exact⟨(ao _ _).alloc (am _) _,by simp⟩
 have aF:Hid (∀wr,Below (w.heap.size+1) e wr->aj w wr):=λwr j=>s.out.1.trans (j.mono (by omega));clear L;have J:Hid (en (n+5) B (w.heap.size+1) [bf nP (n+4)] (ae (some ⟨w.heap.size+1+1,0,none⟩) 1 1) e ((e.alloc (.cells #[ab 2,ab 0,af ⟨#[99,111,100,101]⟩,ae none 0 0] 31)).alloc (.cells #[ab 2,ab 0,af ⟨#[99,111,100,101]⟩,ae none 0 0] 31))):=by
  have j:=fl.lit (T:=31) (k:=4) (B:=B) (base:=w.heap.size+1) (dY (n+5)) [bf nP (n+4)] (w0:=e) (w1:=e.alloc (.cells #[ab 2,ab 0,af ⟨#[99,111,100,101]⟩,ae none 0 0] 31)) (cs:= #[ab 2,ab 0,af ⟨#[99,111,100,101]⟩,ae none 0 0]) rfl (o9 _) (by show 1<=maxLen;unfold maxLen;omega) (by have:=s.out.2;simp;omega) ((ao _ _).alloc (by have:=s.out.2;omega) _) (λd l=>by
   simp only[cm,gA,gE]at l;subst l
   exact⟨ie _ _ (nH _ (by decide)) _ _,oH _ _ _⟩)
  have A:(e.alloc (.cells #[ab 2,ab 0,af ⟨#[99,111,100,101]⟩,ae none 0 0] 31)).heap.size=w.heap.size+1+1:=by have:=s.out.2;simp;omega
  rw[A]at j;exact j
 generalize aa:(e.alloc _).alloc _=a3;rw[aa]at J;clear aa;go_loopw [3,10] (λv N wr=>∃(k:Nat)(aE:Value),k<=len/\N=ab k/\aE=v/\Hid (P9 n B ([bf nP (n+4)]) p e (w.heap.size+1) k aE wr)) (λ_ N _=>len-(intOf N).toNat)
 case atStart=>exact⟨0,_,by omega,rfl,rfl,_,rfl,J.out,S.out⟩
 case round=>
  clear J S;obtain⟨k,v,ba,rfl,rfl,U⟩:=hrel;obtain⟨r,m,h,R⟩:∃r:List (Tm (n+5)),Hid (r.length=k+1)/\Hid (en (n+5) B (w.heap.size+1) r v e wr)/\Hid (aB (λa b=>ax (n+5) a (n+5) b) r (([bf nP (n+4)])++(p.take k).map (dM n))=true):=U.out;clear U;have I:=ap (aF.out wr h.out.1);have ag:w.heap.size+1<=wr.heap.size:=by have:=h.out.1.size;have:=s.out.2;omega
  by_cases aV:k<len
  ·obtain⟨d,l⟩:∃d,p[k]?=some d:=⟨p[k]'(by rw[ar.out];exact aV),aI _⟩;have aH:=ap (lY (dM n) p k d l);obtain⟨a0,po,rfl,be,⟨a1,a2⟩,ai⟩:=(gh.below (I.out.mono aR) aX.out).bh k d l;have Z:B<=wr.heap.size:=by omega
   have V:=ap l
   have Q:Hid (∀w1,aj wr w1->ak 102 #[.agg #[af d.1,ae d.2.1.1 d.2.2.length d.2.1.2]] w1 (iJ B (n+5) (dM n d) w1)):=
    λw1 D=>rS n d B w1 ((dV (n+1)).below (D.mono Z) ai) (Y.out d (aJ V.out)).1 (Y.out d (aJ V.out)).2 (az Z D.size)
   clear ai l;generalize dM n d=a4 at*;have bb:(0:Int)<=(k:Int):=by omega
   have bc:(k:Int)<(len:Int):=by omega
   have bg:a0<wr.heap.size:=by omega
   obtain⟨F,G,u⟩:=h.out.slice;rw[m.out]at u;subst u;go_wp2_with fail;refine(Q.out _ aO).mono ?_;rintro A x ⟨f,rfl,z⟩;have H:Hid (aj wr x):=aO.trans (z.out.1.mono (by simp));have C:dq (n+5) f=.agg #[ab f.1.1,ab f.1.2.1,af f.1.2.2,ae f.2.1.1 f.2.2.length f.2.1.2]:=rfl;rw[C];have aL:=λ(o:Obj)(g c:Nat)(w4:World) aW aU aT=>ap (h.out.app m.out (by omega) ag H.out f z.out.2.1 (z.out.2.2.1.mono λb M=>by simp at M;omega) (o:=o) (g:=g) (c:=c) (w4:=w4) aW aU aT);have a8:wr.heap.size<=x.heap.size:=H.out.size;clear C Q a1 a2;go_wp2_with (at_builtin;refine wpList_append_lies _ rfl _ _ 29 rfl (w.heap.size+1) 31 aZ _ 4 56 underlying29 y.out.1 y.out.2.1 y.out.2.2.1 y.out.2.2.2 rfl (by decide) (ae F (k+1) G) (k+1) (r.flatMap (iq (n+5))) (by simp[Act.eval]) (h.out.own m.out H.out _) ⟨x.heap.size,0,none⟩ 1 1 (iq (n+5) f) (by simp[Act.eval]) rfl (zY x (gj (n+5) f) rfl) (uh _ _) (by decide) (by unfold maxLen;omega) (by omega) (by simp;omega) (x.heap.size+1) (by simp) ?_;intro aQ aN w4 an ah ad bd;have aK:=aL _ aQ aN w4 an ah ad;clear an ah ad);go_roundw
   case rel=>exact⟨k+1,_,by omega,by go_num,rfl,r++ [f],by have:=m.out;simp;omega,aK.out,by rw[aH.out,<-mQ];exact iY _ _ _ _ _ R.out z.out.2.2.2⟩
   case measure=>simp[intOf];omega
  ·obtain rfl:k=len:=by omega
   obtain⟨F,G,u⟩:=h.out.slice;rw[m.out]at u;subst u;have q:=ap ((h.out.1.block (w.heap.size) (by omega)).trans K.out);have d0:wr.cell? ⟨w.heap.size,0,none⟩=some (ab 0):=au q.out 0;have d1:wr.cell? ⟨w.heap.size,1,none⟩=some (ab 0):=au q.out 1;have d2:wr.cell? ⟨w.heap.size,2,none⟩=some (af ⟨#[]⟩):=au q.out 2;have d3:wr.cell? ⟨w.heap.size,3,none⟩=some (ae none 0 0):=au q.out 3;have f0:=λE=>cV q.out E;have t:w.heap.size<wr.heap.size:=by omega
   have aG:=λ(aM w':World) M D aY=>ap (en.tells (w:=w) (ys:=([bf nP (n+4)])++p.map (dM n)) (w':=w') (h.out.later (dY _) ag (w1:=aM) M) (by omega) (by have j:=R.out;rw[bA (by rw[ar.out];omega)]at j;exact j) D aY);clear q K;go_wp2_with (go_at_call 103;refine(fN _ _ _ _).mono ?_;rintro A O ⟨rfl,aD⟩;have i:=ap (show aj wr O by rw[aD];go_grown);clear aD;replace d0:=(aq i.out _ _ t).trans d0;replace d1:=(aq i.out _ _ t).trans d1;replace d2:=(aq i.out _ _ t).trans d2;replace d3:=(aq i.out _ _ t).trans d3;replace f0:=λE=>(gH i.out _ E t).trans (f0 E));refine av (v:=.agg #[ab 4,ab 0,af ⟨#[]⟩,ae F (k+1) G]) (by simp[results,results66,go_sem,d0,d1,d2,d3]) rfl ?_;rw[aS.out];obtain⟨a5,a6,X,P⟩:=(aG O (dd O (w.heap.size) 0 (ab 4) (ab 0) (af ⟨#[]⟩) (ae F (k+1) G)) i.out (zB (by omega) (by omega) (ao _ _)) (dA (br _ _ _ _).symm)).out (dJ (I.out.trans (i.out.mono I.out.size)) (by omega));rw[m.out]at X P;injection X with aP a7 C;subst aP C;exact P
theorem tS(n:Nat)(p:List (Bh (n+1)))(a:Option Addr)(pc:Nat)(B:Nat)(w:World)(g:gh (n+1) B w a p)(d:p.length<=7)(e:∀b∈p,b.2.2.length<=6/\∀c∈b.2.2,c.2.2.length<=8)(f:B<=w.heap.size):ak 66 #[ae a p.length pc] w (iJ B (n+6) (bW n p) w):=
 sN n p p.length rfl d e a pc B w g f _ rfl
end Go.Proofs.YtmmahddlcldmiaaGreat
